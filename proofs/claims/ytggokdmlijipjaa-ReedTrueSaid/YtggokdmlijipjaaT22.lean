/- Part 22 of the proof: TrueP17, TrueP13. -/
import Derived.Test.YtggokdmlijipjaaT21
/- The law ReedTrue: what truly is so. -/
namespace Go.Proofs.Ytggokdmlijipjaa
set_option linter.all false
open Go.RowKit
set_option maxHeartbeats 4000000 in
set_option maxRecDepth 1000000 in
theorem part17 {w0 w3 : World} {b g4 : Nat} {J : Jb} {ja : Option Addr} {jn jc : Nat} {la : Option Addr} {ln lc : Nat} {l : List Int} {g6 : Nat} {x : Fd} {sa : Option Addr} {sn sc : Nat} {shl : List Int} {T : Tg} {g13 : Nat} {wo sp fi : Int} {w : World} {u0 u1 u8 u10 u12 u19 u20 u21 u22 u23 u24 u25 u26 u27 u28 u29 u30 u31 u32 u33 u34 u35 u36 u37 u38 u39 u40 u41 u42 u43 u44 u45 u46 u47 u48 u49 u50 u51 u52 u53 u54 u55 u56 u57 u58 u59 u60 u61 u62 u63 u64 u65 u66 u67 u68 u69 u70 u71 u72 u73 u74 u75 u76 u77 u78 u79 u80 u81 u82 u83 u84 u85 u86 u87 u88 u89 u90 u91 u92 u93 u94 u95 u96 u97 u98 u99 u100 u101 u102 u103 u104 u105 u106 u107 u108 u109 u110 u111 u112 u113 u114 u115 u116 u117 u118 u119 u120 u121 u122 u123 u124 u125 u126 u127 u128 u129 u130 u131 u132 u133 u134 u135 u136 u137 u138 u139 u140 u141 u142 u143 u144 u145 u146 u147 u148 u149 u150 u151 u152 u153 u154 u155 u156 u157 u158 u159 u160 u161 u162 u163 u164 u165 u166 u167 u168 u169 u170 u171 u172 u173 u174 u175 u176 u177 u178 u179 u180 u181 u182 u183 u184 u185 u186 u187 u188 u189 u190 u191 u192 u193 u194 u195 u196 u197 u198 u199 u200 u201 u202 u203 u204 : Value} (hfine : FineOK) (htun : TunOK) (h3 : L3 w0 w3 b g4 J ja jn jc la ln l) (hs : LS w3 b g6 x sa shl w) (hin : Ins shl (conds J.sh)) (hsn : sn = shl.length) (hx : T.has x) (hT : T.In 200) (ha : Bk w g13 28 (tonC T)) (hfar : farI x.p shl ≤ wo) (hsp : RightI sp (decide (x.t < J.le ∨ x.r < J.le))) (hfi : RightI fi (decide (farI x.p shl ≤ J.wi ∧ ¬ (x.t < J.le ∨ x.r < J.le)))) : Code.wp Try.prog rest17 (QL w0) ⟨#[u0, u1, (.bool false), (.pointer (some ⟨b, 0, none⟩)), (.pointer (some ⟨g4, 0, none⟩)), (.slice la ln lc), (.pointer (some ⟨g6, 0, none⟩)), (.slice sa sn sc), u8, (.int .i64 0), u10, (.int .i64 0), u12, (.pointer (some ⟨g13, 0, none⟩)), (.int .i64 wo), (.int .i64 sp), (.int .i64 0), (.int .i64 fi), (.int .i64 0), u19, u20, u21, u22, u23, u24, u25, u26, u27, u28, u29, u30, u31, u32, u33, u34, u35, u36, u37, u38, u39, u40, u41, u42, u43, u44, u45, u46, u47, u48, u49, u50, u51, u52, u53, u54, u55, u56, u57, u58, u59, u60, u61, u62, u63, u64, u65, u66, u67, u68, u69, u70, u71, u72, u73, u74, u75, u76, u77, u78, u79, u80, u81, u82, u83, u84, u85, u86, u87, u88, u89, u90, u91, u92, u93, u94, u95, u96, u97, u98, u99, u100, u101, u102, u103, u104, u105, u106, u107, u108, u109, u110, u111, u112, u113, u114, u115, u116, u117, u118, u119, u120, u121, u122, u123, u124, u125, u126, u127, u128, u129, u130, u131, u132, u133, u134, u135, u136, u137, u138, u139, u140, u141, u142, u143, u144, u145, u146, u147, u148, u149, u150, u151, u152, u153, u154, u155, u156, u157, u158, u159, u160, u161, u162, u163, u164, u165, u166, u167, u168, u169, u170, u171, u172, u173, u174, u175, u176, u177, u178, u179, u180, u181, u182, u183, u184, u185, u186, u187, u188, u189, u190, u191, u192, u193, u194, u195, u196, u197, u198, u199, u200, u201, u202, u203, u204], []⟩ w := by
  have hok := check_ok h3.ck
  have HN := hidMk hsn
  have HI := hidMk hin
  have HX := hidMk hx
  have hTb := HX.out.bnd hT
  obtain ⟨⟨hxp1, hxp2⟩, _, _⟩ := hTb
  have HTI := hidMk hT
  have HFA := hidMk hfar
  clear hsn hin hx hT hfar
  have HL : Hid (∀ s ∈ shl, -100 ≤ s ∧ s ≤ 100) := ins_bnd h3.ck HI.out
  have HCL : Hid ((conds J.sh).length ≤ 4) := conds_le4 h3.ck
  obtain ⟨isB, HB⟩ : ∃ v : Bool, decide (farI x.p shl ≤ J.wi) = v := ⟨_, rfl⟩
  obtain ⟨thB, HTH⟩ : ∃ v : Bool, decide (x.t < J.le ∨ x.r < J.le) = v := ⟨_, rfl⟩
  rw [HTH] at hsp
  have hfi' : RightI fi (isB && !thB) := by
    have e : decide (farI x.p shl ≤ J.wi ∧ ¬ (x.t < J.le ∨ x.r < J.le)) = (isB && !thB) := by
      rw [← HB, ← HTH]
      simp only [Bool.decide_and, decide_not]
    rw [e] at hfi
    exact hfi
  have HSP := hidMk hsp
  have HFI := hidMk hfi'
  clear hsp hfi hfi'
  rw [rest17_eq]
  refine wp_seq_k fun K hKK => ?_
  refine region_via (R := fun a e a' w' => e = .normal ∧ ∃ (v124 v125 v126 v127 v128 v129 v130 v131 v132 v133 v134 v135 v136 v137 v138 v139 v140 v141 v142 v143 v144 v19 v20 : Value), a' = (((((((((((((((((((((((a.put (some 124) v124).put (some 125) v125).put (some 126) v126).put (some 127) v127).put (some 128) v128).put (some 129) v129).put (some 130) v130).put (some 131) v131).put (some 132) v132).put (some 133) v133).put (some 134) v134).put (some 135) v135).put (some 136) v136).put (some 137) v137).put (some 138) v138).put (some 139) v139).put (some 140) v140).put (some 141) v141).put (some 142) v142).put (some 143) v143).put (some 144) v144).put (some 19) v19).put (some 20) v20) ∧ v19 = .bool isB ∧ v20 = .bool thB ∧ LS w3 b g6 x sa shl w' ∧ Bk w' g13 28 (tonC T)) ?_ ?_
  rotate_left
  · rintro e a' w' ⟨rfl, v124, v125, v126, v127, v128, v129, v130, v131, v132, v133, v134, v135, v136, v137, v138, v139, v140, v141, v142, v143, v144, v19, v20, rfl, rfl, rfl, hs', ha'⟩
    refine hKK _ _ ?_
    simp only [Act.put, List.setIfInBounds_toArray, List.set_cons_zero, List.set_cons_succ]
    exact part18 hfine htun h3 hs' HI.out HN.out HX.out HTI.out ha' HFA.out HSP.out HFI.out
  have hS' : LS w3 b g6 x sa shl w.drew ∧ Bk w.drew g13 28 (tonC T) := ⟨hs.draw, ha.drew⟩
  clear HSP HFI
  refine wp_region_held_drew (S := fun w' => LS w3 b g6 x sa shl w' ∧ Bk w' g13 28 (tonC T)) (by kernel_rfl) hS' (fun hS0 => ?_)
  clear hs ha hS'
  generalize hWd : w.drew = wd at hS0 ⊢
  clear hWd
  by_cases h1 : x.t < J.le
  · have hd1 : decide (x.t < J.le) = true := decide_eq_true h1
    have hth : thB = true := by rw [← HTH]; exact decide_eq_true (.inl h1)
    clear HTH
    subst hth
    refine wpAnyH_take (i := 0) (oi := { dst := some 124, op := Go.Op.fieldAddr 37 (Go.Operand.tmp 6) 0, type := 0, pos := "outright.go:138", after := #[], guard := none }) (v := ?_) rfl (by kernel_rfl) (by kernel_rfl) (by kernel_rfl) (fun _ _ _ h => nomatch h.1) (.inl ⟨by rfl, ?_⟩) (by assumption) ?_
    rotate_left
    · (intro w' hSw; (try dsimp only at hSw); (have c0 := hSw.1.fd.at_ 0 _ rfl; have c1 := hSw.1.fd.at_ 1 _ rfl; have c2 := hSw.1.fd.at_ 2 _ rfl; have j14 := (hSw.1.job h3).at_ 14 _ rfl; have j16 := (hSw.1.job h3).at_ 16 _ rfl); go_simp <;> with_reducible rfl)
    (try simp only [Act.put, List.setIfInBounds_toArray, List.set_cons_zero, List.set_cons_succ])
    refine wpAnyH_take (i := 1) (oi := { dst := some 125, op := Go.Op.load 3 (Go.Operand.tmp 124), type := 3, pos := "outright.go:138", after := #[{ on := 0, ground := Go.Ground.data }], guard := none }) (v := ?_) rfl (by kernel_rfl) (by kernel_rfl) (by kernel_rfl) (fun _ _ _ h => nomatch h.1) (.inl ⟨by rfl, ?_⟩) (by assumption) ?_
    rotate_left
    · (intro w' hSw; (try dsimp only at hSw); (have c0 := hSw.1.fd.at_ 0 _ rfl; have c1 := hSw.1.fd.at_ 1 _ rfl; have c2 := hSw.1.fd.at_ 2 _ rfl; have j14 := (hSw.1.job h3).at_ 14 _ rfl; have j16 := (hSw.1.job h3).at_ 16 _ rfl); go_simp <;> with_reducible rfl)
    (try simp only [Act.put, List.setIfInBounds_toArray, List.set_cons_zero, List.set_cons_succ])
    refine wpAnyH_take (i := 2) (oi := { dst := some 126, op := Go.Op.move (Go.Operand.tmp 7), type := 22, pos := "outright.go:138", after := #[], guard := none }) (v := ?_) rfl (by kernel_rfl) (by kernel_rfl) (by kernel_rfl) (fun _ _ _ h => nomatch h.1) (.inl ⟨by rfl, ?_⟩) (by assumption) ?_
    rotate_left
    · (intro w' hSw; (try dsimp only at hSw); (have c0 := hSw.1.fd.at_ 0 _ rfl; have c1 := hSw.1.fd.at_ 1 _ rfl; have c2 := hSw.1.fd.at_ 2 _ rfl; have j14 := (hSw.1.job h3).at_ 14 _ rfl; have j16 := (hSw.1.job h3).at_ 16 _ rfl); go_simp <;> with_reducible rfl)
    (try simp only [Act.put, List.setIfInBounds_toArray, List.set_cons_zero, List.set_cons_succ])
    refine wpAnyH_take (i := 4) (oi := { dst := some 128, op := Go.Op.fieldAddr 33 (Go.Operand.tmp 4) 3, type := 0, pos := "outright.go:138", after := #[], guard := none }) (v := ?_) rfl (by kernel_rfl) (by kernel_rfl) (by kernel_rfl) (fun _ _ _ h => nomatch h.1) (.inl ⟨by rfl, ?_⟩) (by assumption) ?_
    rotate_left
    · (intro w' hSw; (try dsimp only at hSw); (have c0 := hSw.1.fd.at_ 0 _ rfl; have c1 := hSw.1.fd.at_ 1 _ rfl; have c2 := hSw.1.fd.at_ 2 _ rfl; have j14 := (hSw.1.job h3).at_ 14 _ rfl; have j16 := (hSw.1.job h3).at_ 16 _ rfl); go_simp <;> with_reducible rfl)
    (try simp only [Act.put, List.setIfInBounds_toArray, List.set_cons_zero, List.set_cons_succ])
    refine wpAnyH_take (i := 5) (oi := { dst := some 129, op := Go.Op.load 3 (Go.Operand.tmp 128), type := 3, pos := "outright.go:138", after := #[{ on := 4, ground := Go.Ground.data }], guard := none }) (v := ?_) rfl (by kernel_rfl) (by kernel_rfl) (by kernel_rfl) (fun _ _ _ h => nomatch h.1) (.inl ⟨by rfl, ?_⟩) (by assumption) ?_
    rotate_left
    · (intro w' hSw; (try dsimp only at hSw); (have c0 := hSw.1.fd.at_ 0 _ rfl; have c1 := hSw.1.fd.at_ 1 _ rfl; have c2 := hSw.1.fd.at_ 2 _ rfl; have j14 := (hSw.1.job h3).at_ 14 _ rfl; have j16 := (hSw.1.job h3).at_ 16 _ rfl); go_simp <;> with_reducible rfl)
    (try simp only [Act.put, List.setIfInBounds_toArray, List.set_cons_zero, List.set_cons_succ])
    refine wpAnyH_take (i := 7) (oi := { dst := some 131, op := Go.Op.fieldAddr 37 (Go.Operand.tmp 6) 1, type := 0, pos := "outright.go:138", after := #[], guard := none }) (v := ?_) rfl (by kernel_rfl) (by kernel_rfl) (by kernel_rfl) (fun _ _ _ h => nomatch h.1) (.inl ⟨by rfl, ?_⟩) (by assumption) ?_
    rotate_left
    · (intro w' hSw; (try dsimp only at hSw); (have c0 := hSw.1.fd.at_ 0 _ rfl; have c1 := hSw.1.fd.at_ 1 _ rfl; have c2 := hSw.1.fd.at_ 2 _ rfl; have j14 := (hSw.1.job h3).at_ 14 _ rfl; have j16 := (hSw.1.job h3).at_ 16 _ rfl); go_simp <;> with_reducible rfl)
    (try simp only [Act.put, List.setIfInBounds_toArray, List.set_cons_zero, List.set_cons_succ])
    refine wpAnyH_take (i := 8) (oi := { dst := some 132, op := Go.Op.load 3 (Go.Operand.tmp 131), type := 3, pos := "outright.go:138", after := #[{ on := 7, ground := Go.Ground.data }], guard := none }) (v := ?_) rfl (by kernel_rfl) (by kernel_rfl) (by kernel_rfl) (fun _ _ _ h => nomatch h.1) (.inl ⟨by rfl, ?_⟩) (by assumption) ?_
    rotate_left
    · (intro w' hSw; (try dsimp only at hSw); (have c0 := hSw.1.fd.at_ 0 _ rfl; have c1 := hSw.1.fd.at_ 1 _ rfl; have c2 := hSw.1.fd.at_ 2 _ rfl; have j14 := (hSw.1.job h3).at_ 14 _ rfl; have j16 := (hSw.1.job h3).at_ 16 _ rfl); go_simp <;> with_reducible rfl)
    (try simp only [Act.put, List.setIfInBounds_toArray, List.set_cons_zero, List.set_cons_succ])
    refine wpAnyH_take (i := 9) (oi := { dst := some 133, op := Go.Op.fieldAddr 33 (Go.Operand.tmp 4) 1, type := 0, pos := "outright.go:138", after := #[], guard := none }) (v := ?_) rfl (by kernel_rfl) (by kernel_rfl) (by kernel_rfl) (fun _ _ _ h => nomatch h.1) (.inl ⟨by rfl, ?_⟩) (by assumption) ?_
    rotate_left
    · (intro w' hSw; (try dsimp only at hSw); (have c0 := hSw.1.fd.at_ 0 _ rfl; have c1 := hSw.1.fd.at_ 1 _ rfl; have c2 := hSw.1.fd.at_ 2 _ rfl; have j14 := (hSw.1.job h3).at_ 14 _ rfl; have j16 := (hSw.1.job h3).at_ 16 _ rfl); go_simp <;> with_reducible rfl)
    (try simp only [Act.put, List.setIfInBounds_toArray, List.set_cons_zero, List.set_cons_succ])
    refine wpAnyH_take (i := 10) (oi := { dst := some 134, op := Go.Op.fieldAddr 30 (Go.Operand.tmp 133) 4, type := 0, pos := "outright.go:138", after := #[{ on := 9, ground := Go.Ground.data }], guard := none }) (v := ?_) rfl (by kernel_rfl) (by kernel_rfl) (by kernel_rfl) (fun _ _ _ h => nomatch h.1) (.inl ⟨by rfl, ?_⟩) (by assumption) ?_
    rotate_left
    · (intro w' hSw; (try dsimp only at hSw); (have c0 := hSw.1.fd.at_ 0 _ rfl; have c1 := hSw.1.fd.at_ 1 _ rfl; have c2 := hSw.1.fd.at_ 2 _ rfl; have j14 := (hSw.1.job h3).at_ 14 _ rfl; have j16 := (hSw.1.job h3).at_ 16 _ rfl); go_simp <;> with_reducible rfl)
    (try simp only [Act.put, List.setIfInBounds_toArray, List.set_cons_zero, List.set_cons_succ])
    refine wpAnyH_take (i := 11) (oi := { dst := some 135, op := Go.Op.load 3 (Go.Operand.tmp 134), type := 3, pos := "outright.go:138", after := #[{ on := 10, ground := Go.Ground.data }], guard := none }) (v := ?_) rfl (by kernel_rfl) (by kernel_rfl) (by kernel_rfl) (fun _ _ _ h => nomatch h.1) (.inl ⟨by rfl, ?_⟩) (by assumption) ?_
    rotate_left
    · (intro w' hSw; (try dsimp only at hSw); (have c0 := hSw.1.fd.at_ 0 _ rfl; have c1 := hSw.1.fd.at_ 1 _ rfl; have c2 := hSw.1.fd.at_ 2 _ rfl; have j14 := (hSw.1.job h3).at_ 14 _ rfl; have j16 := (hSw.1.job h3).at_ 16 _ rfl); go_simp <;> with_reducible rfl)
    (try simp only [Act.put, List.setIfInBounds_toArray, List.set_cons_zero, List.set_cons_succ])
    refine wpAnyH_take (i := 12) (oi := { dst := some 136, op := Go.Op.binOp Go.BinOp.lss 3 (Go.Operand.tmp 132) (Go.Operand.tmp 135) 3, type := 4, pos := "outright.go:138", after := #[{ on := 8, ground := Go.Ground.data }, { on := 11, ground := Go.Ground.data }], guard := none }) (v := ?_) rfl (by kernel_rfl) (by kernel_rfl) (by kernel_rfl) (fun _ _ _ h => nomatch h.1) (.inl ⟨by rfl, ?_⟩) (by assumption) ?_
    rotate_left
    · (intro w' hSw; (try dsimp only at hSw); (have c0 := hSw.1.fd.at_ 0 _ rfl; have c1 := hSw.1.fd.at_ 1 _ rfl; have c2 := hSw.1.fd.at_ 2 _ rfl; have j14 := (hSw.1.job h3).at_ 14 _ rfl; have j16 := (hSw.1.job h3).at_ 16 _ rfl); go_simp <;> with_reducible rfl)
    (try simp only [Act.put, List.setIfInBounds_toArray, List.set_cons_zero, List.set_cons_succ])
    refine wpAnyH_ready (rs := [3]) (by kernel_rfl) (by simp) ?_
    refine AllReadyH.cons (o := { dst := some 127, op := Go.Op.call { callee := Go.Callee.value (Go.Operand.func 13), args := #[Go.Operand.tmp 125, Go.Operand.tmp 126], argTypes := #[3, 22] }, type := 3, pos := "outright.go:138", after := #[{ on := 1, ground := Go.Ground.data }, { on := 2, ground := Go.Ground.data }], guard := none }) rfl (fun K hK => ?_) ?_
    · go_simp
      go_at_call 13
      refine (far_any x.p (by omega) sa sn sc shl _ HN.out (by have := HN.out; have := HI.out.len; have := HCL.out; omega) HL.out (hS0.1.sh.is)).mono ?_
      rintro e w1 ⟨rfl, hb1⟩
      go_wp2_with fail
      refine hK.out _ _ ⟨hS0.1.next hb1, hS0.2.below hb1 hS0.2.lt⟩ (fun hS1 => ?_)
      clear hK K
      (try simp only [Act.put, List.setIfInBounds_toArray, List.set_cons_zero, List.set_cons_succ])
      refine wpAnyH_take (i := 6) (oi := { dst := some 130, op := Go.Op.binOp Go.BinOp.leq 3 (Go.Operand.tmp 127) (Go.Operand.tmp 129) 3, type := 4, pos := "outright.go:138", after := #[{ on := 3, ground := Go.Ground.data }, { on := 5, ground := Go.Ground.data }], guard := none }) (v := ?_) rfl (by kernel_rfl) (by kernel_rfl) (by kernel_rfl) (fun _ _ _ h => nomatch h.1) (.inl ⟨by rfl, ?_⟩) (by assumption) ?_
      rotate_left
      · (intro w' hSw; (try dsimp only at hSw); (have c0 := hSw.1.fd.at_ 0 _ rfl; have c1 := hSw.1.fd.at_ 1 _ rfl; have c2 := hSw.1.fd.at_ 2 _ rfl; have j14 := (hSw.1.job h3).at_ 14 _ rfl; have j16 := (hSw.1.job h3).at_ 16 _ rfl); go_simp <;> with_reducible rfl)
      (try simp only [Act.put, List.setIfInBounds_toArray, List.set_cons_zero, List.set_cons_succ])
      refine wpAnyH_take (i := 13) (oi := { dst := some 137, op := Go.Op.move (Go.Operand.tmp 136), type := 4, pos := "outright.go:138", after := #[{ on := 12, ground := Go.Ground.data }, { on := 3, ground := Go.Ground.chain }], guard := none }) (v := ?_) rfl (by kernel_rfl) (by kernel_rfl) (by kernel_rfl) (fun _ _ _ h => nomatch h.1) (.inl ⟨by rfl, ?_⟩) (by assumption) ?_
      rotate_left
      · (intro w' hSw; (try dsimp only at hSw); (have c0 := hSw.1.fd.at_ 0 _ rfl; have c1 := hSw.1.fd.at_ 1 _ rfl; have c2 := hSw.1.fd.at_ 2 _ rfl; have j14 := (hSw.1.job h3).at_ 14 _ rfl; have j16 := (hSw.1.job h3).at_ 16 _ rfl); go_simp <;> with_reducible rfl)
      (try simp only [Act.put, List.setIfInBounds_toArray, List.set_cons_zero, List.set_cons_succ])
      refine wpAnyH_take (i := 14) (oi := { dst := some 138, op := Go.Op.fieldAddr 37 (Go.Operand.tmp 6) 2, type := 0, pos := "outright.go:138", after := #[{ on := 13, ground := Go.Ground.guard }, { on := 21, ground := Go.Ground.gcOnly Go.Departure.lateStores }], guard := some (13, false) }) (v := undef) rfl (by kernel_rfl) (by kernel_rfl) (by kernel_rfl) (fun _ _ _ h => nomatch h.1) (.inr ⟨by rfl, rfl⟩) (by assumption) ?_
      (try simp only [Act.put, List.setIfInBounds_toArray, List.set_cons_zero, List.set_cons_succ])
      refine wpAnyH_take (i := 15) (oi := { dst := some 139, op := Go.Op.load 3 (Go.Operand.tmp 138), type := 3, pos := "outright.go:138", after := #[{ on := 14, ground := Go.Ground.data }, { on := 13, ground := Go.Ground.guard }, { on := 21, ground := Go.Ground.gcOnly Go.Departure.lateStores }], guard := some (13, false) }) (v := undef) rfl (by kernel_rfl) (by kernel_rfl) (by kernel_rfl) (fun _ _ _ h => nomatch h.1) (.inr ⟨by rfl, rfl⟩) (by assumption) ?_
      (try simp only [Act.put, List.setIfInBounds_toArray, List.set_cons_zero, List.set_cons_succ])
      refine wpAnyH_take (i := 16) (oi := { dst := some 140, op := Go.Op.fieldAddr 33 (Go.Operand.tmp 4) 1, type := 0, pos := "outright.go:138", after := #[{ on := 13, ground := Go.Ground.guard }, { on := 21, ground := Go.Ground.gcOnly Go.Departure.lateStores }], guard := some (13, false) }) (v := undef) rfl (by kernel_rfl) (by kernel_rfl) (by kernel_rfl) (fun _ _ _ h => nomatch h.1) (.inr ⟨by rfl, rfl⟩) (by assumption) ?_
      (try simp only [Act.put, List.setIfInBounds_toArray, List.set_cons_zero, List.set_cons_succ])
      refine wpAnyH_take (i := 17) (oi := { dst := some 141, op := Go.Op.fieldAddr 30 (Go.Operand.tmp 140) 4, type := 0, pos := "outright.go:138", after := #[{ on := 16, ground := Go.Ground.data }, { on := 13, ground := Go.Ground.guard }, { on := 21, ground := Go.Ground.gcOnly Go.Departure.lateStores }], guard := some (13, false) }) (v := undef) rfl (by kernel_rfl) (by kernel_rfl) (by kernel_rfl) (fun _ _ _ h => nomatch h.1) (.inr ⟨by rfl, rfl⟩) (by assumption) ?_
      (try simp only [Act.put, List.setIfInBounds_toArray, List.set_cons_zero, List.set_cons_succ])
      refine wpAnyH_take (i := 18) (oi := { dst := some 142, op := Go.Op.load 3 (Go.Operand.tmp 141), type := 3, pos := "outright.go:138", after := #[{ on := 17, ground := Go.Ground.data }, { on := 13, ground := Go.Ground.guard }, { on := 21, ground := Go.Ground.gcOnly Go.Departure.lateStores }], guard := some (13, false) }) (v := undef) rfl (by kernel_rfl) (by kernel_rfl) (by kernel_rfl) (fun _ _ _ h => nomatch h.1) (.inr ⟨by rfl, rfl⟩) (by assumption) ?_
      (try simp only [Act.put, List.setIfInBounds_toArray, List.set_cons_zero, List.set_cons_succ])
      refine wpAnyH_take (i := 19) (oi := { dst := some 143, op := Go.Op.binOp Go.BinOp.lss 3 (Go.Operand.tmp 139) (Go.Operand.tmp 142) 3, type := 4, pos := "outright.go:138", after := #[{ on := 15, ground := Go.Ground.data }, { on := 18, ground := Go.Ground.data }, { on := 13, ground := Go.Ground.guard }, { on := 21, ground := Go.Ground.gcOnly Go.Departure.lateStores }], guard := some (13, false) }) (v := undef) rfl (by kernel_rfl) (by kernel_rfl) (by kernel_rfl) (fun _ _ _ h => nomatch h.1) (.inr ⟨by rfl, rfl⟩) (by assumption) ?_
      (try simp only [Act.put, List.setIfInBounds_toArray, List.set_cons_zero, List.set_cons_succ])
      refine wpAnyH_take (i := 20) (oi := { dst := some 144, op := Go.Op.pick (Go.Operand.tmp 137) (Go.Operand.const (Go.Value.bool true)) (Go.Operand.tmp 143), type := 4, pos := "outright.go:138", after := #[{ on := 13, ground := Go.Ground.data }, { on := 19, ground := Go.Ground.data }, { on := 21, ground := Go.Ground.gcOnly Go.Departure.lateStores }], guard := none }) (v := ?_) rfl (by kernel_rfl) (by kernel_rfl) (by kernel_rfl) (fun _ _ _ h => nomatch h.1) (.inl ⟨by rfl, ?_⟩) (by assumption) ?_
      rotate_left
      · (intro w' hSw; (try dsimp only at hSw); (have c0 := hSw.1.fd.at_ 0 _ rfl; have c1 := hSw.1.fd.at_ 1 _ rfl; have c2 := hSw.1.fd.at_ 2 _ rfl; have j14 := (hSw.1.job h3).at_ 14 _ rfl; have j16 := (hSw.1.job h3).at_ 16 _ rfl); go_simp <;> with_reducible rfl)
      (try simp only [Act.put, List.setIfInBounds_toArray, List.set_cons_zero, List.set_cons_succ])
      refine wpAnyH_ready (rs := [21]) (by kernel_rfl) (by simp) ?_
      refine AllReadyH.cons (o := { dst := some 19, op := Go.Op.assign (Go.Operand.tmp 130), type := 4, pos := "outright.go:138", after := #[{ on := 6, ground := Go.Ground.data }, { on := 13, ground := Go.Ground.chain }, { on := 0, ground := Go.Ground.phase }, { on := 1, ground := Go.Ground.phase }, { on := 2, ground := Go.Ground.phase }, { on := 3, ground := Go.Ground.phase }, { on := 4, ground := Go.Ground.phase }, { on := 5, ground := Go.Ground.phase }, { on := 6, ground := Go.Ground.phase }, { on := 7, ground := Go.Ground.textOnly Go.Departure.lateStores }, { on := 8, ground := Go.Ground.textOnly Go.Departure.lateStores }, { on := 9, ground := Go.Ground.textOnly Go.Departure.lateStores }, { on := 10, ground := Go.Ground.textOnly Go.Departure.lateStores }, { on := 11, ground := Go.Ground.textOnly Go.Departure.lateStores }, { on := 12, ground := Go.Ground.textOnly Go.Departure.lateStores }, { on := 13, ground := Go.Ground.textOnly Go.Departure.lateStores }, { on := 14, ground := Go.Ground.textOnly Go.Departure.lateStores }, { on := 15, ground := Go.Ground.textOnly Go.Departure.lateStores }, { on := 16, ground := Go.Ground.textOnly Go.Departure.lateStores }, { on := 17, ground := Go.Ground.textOnly Go.Departure.lateStores }, { on := 18, ground := Go.Ground.textOnly Go.Departure.lateStores }, { on := 19, ground := Go.Ground.textOnly Go.Departure.lateStores }, { on := 20, ground := Go.Ground.textOnly Go.Departure.lateStores }], guard := none }) rfl (fun K hK => ?_) ?_
      · go_simp
        refine hK.out _ _ hS1 (fun hS2 => ?_)
        clear hK K
        (try simp only [Act.put, List.setIfInBounds_toArray, List.set_cons_zero, List.set_cons_succ])
        refine wpAnyH_ready (rs := [22]) (by kernel_rfl) (by simp) ?_
        refine AllReadyH.cons (o := { dst := some 20, op := Go.Op.assign (Go.Operand.tmp 144), type := 4, pos := "outright.go:138", after := #[{ on := 20, ground := Go.Ground.data }, { on := 21, ground := Go.Ground.chain }, { on := 0, ground := Go.Ground.phase }, { on := 1, ground := Go.Ground.phase }, { on := 2, ground := Go.Ground.phase }, { on := 3, ground := Go.Ground.phase }, { on := 4, ground := Go.Ground.phase }, { on := 5, ground := Go.Ground.phase }, { on := 6, ground := Go.Ground.phase }, { on := 7, ground := Go.Ground.phase }, { on := 8, ground := Go.Ground.phase }, { on := 9, ground := Go.Ground.phase }, { on := 10, ground := Go.Ground.phase }, { on := 11, ground := Go.Ground.phase }, { on := 12, ground := Go.Ground.phase }, { on := 13, ground := Go.Ground.phase }, { on := 14, ground := Go.Ground.phase }, { on := 15, ground := Go.Ground.phase }, { on := 16, ground := Go.Ground.phase }, { on := 17, ground := Go.Ground.phase }, { on := 18, ground := Go.Ground.phase }, { on := 19, ground := Go.Ground.phase }, { on := 20, ground := Go.Ground.phase }, { on := 21, ground := Go.Ground.phase }], guard := none }) rfl (fun K hK => ?_) ?_
        · go_simp
          refine hK.out _ _ hS2 (fun hS3 => ?_)
          clear hK K
          (try simp only [Act.put, List.setIfInBounds_toArray, List.set_cons_zero, List.set_cons_succ])
          refine wpAnyH_done (by kernel_rfl) ?_ _
          exact ⟨rfl, _, _, _, _, _, _, _, _, _, _, _, _, _, _, _, _, _, _, _, _, _, _, _, rfl, rfl, rfl, hS3.1, hS3.2⟩
        exact AllReadyH.nil
      exact AllReadyH.nil
    exact AllReadyH.nil
  · have hd1 : decide (x.t < J.le) = false := decide_eq_false h1
    have hd2 : decide (x.r < J.le) = thB := by
      rw [← HTH]
      exact decide_eq_decide.2 ⟨.inr, fun h => h.resolve_left h1⟩
    clear HTH h1
    refine wpAnyH_take (i := 0) (oi := { dst := some 124, op := Go.Op.fieldAddr 37 (Go.Operand.tmp 6) 0, type := 0, pos := "outright.go:138", after := #[], guard := none }) (v := ?_) rfl (by kernel_rfl) (by kernel_rfl) (by kernel_rfl) (fun _ _ _ h => nomatch h.1) (.inl ⟨by rfl, ?_⟩) (by assumption) ?_
    rotate_left
    · (intro w' hSw; (try dsimp only at hSw); (have c0 := hSw.1.fd.at_ 0 _ rfl; have c1 := hSw.1.fd.at_ 1 _ rfl; have c2 := hSw.1.fd.at_ 2 _ rfl; have j14 := (hSw.1.job h3).at_ 14 _ rfl; have j16 := (hSw.1.job h3).at_ 16 _ rfl); go_simp <;> with_reducible rfl)
    (try simp only [Act.put, List.setIfInBounds_toArray, List.set_cons_zero, List.set_cons_succ])
    refine wpAnyH_take (i := 1) (oi := { dst := some 125, op := Go.Op.load 3 (Go.Operand.tmp 124), type := 3, pos := "outright.go:138", after := #[{ on := 0, ground := Go.Ground.data }], guard := none }) (v := ?_) rfl (by kernel_rfl) (by kernel_rfl) (by kernel_rfl) (fun _ _ _ h => nomatch h.1) (.inl ⟨by rfl, ?_⟩) (by assumption) ?_
    rotate_left
    · (intro w' hSw; (try dsimp only at hSw); (have c0 := hSw.1.fd.at_ 0 _ rfl; have c1 := hSw.1.fd.at_ 1 _ rfl; have c2 := hSw.1.fd.at_ 2 _ rfl; have j14 := (hSw.1.job h3).at_ 14 _ rfl; have j16 := (hSw.1.job h3).at_ 16 _ rfl); go_simp <;> with_reducible rfl)
    (try simp only [Act.put, List.setIfInBounds_toArray, List.set_cons_zero, List.set_cons_succ])
    refine wpAnyH_take (i := 2) (oi := { dst := some 126, op := Go.Op.move (Go.Operand.tmp 7), type := 22, pos := "outright.go:138", after := #[], guard := none }) (v := ?_) rfl (by kernel_rfl) (by kernel_rfl) (by kernel_rfl) (fun _ _ _ h => nomatch h.1) (.inl ⟨by rfl, ?_⟩) (by assumption) ?_
    rotate_left
    · (intro w' hSw; (try dsimp only at hSw); (have c0 := hSw.1.fd.at_ 0 _ rfl; have c1 := hSw.1.fd.at_ 1 _ rfl; have c2 := hSw.1.fd.at_ 2 _ rfl; have j14 := (hSw.1.job h3).at_ 14 _ rfl; have j16 := (hSw.1.job h3).at_ 16 _ rfl); go_simp <;> with_reducible rfl)
    (try simp only [Act.put, List.setIfInBounds_toArray, List.set_cons_zero, List.set_cons_succ])
    refine wpAnyH_take (i := 4) (oi := { dst := some 128, op := Go.Op.fieldAddr 33 (Go.Operand.tmp 4) 3, type := 0, pos := "outright.go:138", after := #[], guard := none }) (v := ?_) rfl (by kernel_rfl) (by kernel_rfl) (by kernel_rfl) (fun _ _ _ h => nomatch h.1) (.inl ⟨by rfl, ?_⟩) (by assumption) ?_
    rotate_left
    · (intro w' hSw; (try dsimp only at hSw); (have c0 := hSw.1.fd.at_ 0 _ rfl; have c1 := hSw.1.fd.at_ 1 _ rfl; have c2 := hSw.1.fd.at_ 2 _ rfl; have j14 := (hSw.1.job h3).at_ 14 _ rfl; have j16 := (hSw.1.job h3).at_ 16 _ rfl); go_simp <;> with_reducible rfl)
    (try simp only [Act.put, List.setIfInBounds_toArray, List.set_cons_zero, List.set_cons_succ])
    refine wpAnyH_take (i := 5) (oi := { dst := some 129, op := Go.Op.load 3 (Go.Operand.tmp 128), type := 3, pos := "outright.go:138", after := #[{ on := 4, ground := Go.Ground.data }], guard := none }) (v := ?_) rfl (by kernel_rfl) (by kernel_rfl) (by kernel_rfl) (fun _ _ _ h => nomatch h.1) (.inl ⟨by rfl, ?_⟩) (by assumption) ?_
    rotate_left
    · (intro w' hSw; (try dsimp only at hSw); (have c0 := hSw.1.fd.at_ 0 _ rfl; have c1 := hSw.1.fd.at_ 1 _ rfl; have c2 := hSw.1.fd.at_ 2 _ rfl; have j14 := (hSw.1.job h3).at_ 14 _ rfl; have j16 := (hSw.1.job h3).at_ 16 _ rfl); go_simp <;> with_reducible rfl)
    (try simp only [Act.put, List.setIfInBounds_toArray, List.set_cons_zero, List.set_cons_succ])
    refine wpAnyH_take (i := 7) (oi := { dst := some 131, op := Go.Op.fieldAddr 37 (Go.Operand.tmp 6) 1, type := 0, pos := "outright.go:138", after := #[], guard := none }) (v := ?_) rfl (by kernel_rfl) (by kernel_rfl) (by kernel_rfl) (fun _ _ _ h => nomatch h.1) (.inl ⟨by rfl, ?_⟩) (by assumption) ?_
    rotate_left
    · (intro w' hSw; (try dsimp only at hSw); (have c0 := hSw.1.fd.at_ 0 _ rfl; have c1 := hSw.1.fd.at_ 1 _ rfl; have c2 := hSw.1.fd.at_ 2 _ rfl; have j14 := (hSw.1.job h3).at_ 14 _ rfl; have j16 := (hSw.1.job h3).at_ 16 _ rfl); go_simp <;> with_reducible rfl)
    (try simp only [Act.put, List.setIfInBounds_toArray, List.set_cons_zero, List.set_cons_succ])
    refine wpAnyH_take (i := 8) (oi := { dst := some 132, op := Go.Op.load 3 (Go.Operand.tmp 131), type := 3, pos := "outright.go:138", after := #[{ on := 7, ground := Go.Ground.data }], guard := none }) (v := ?_) rfl (by kernel_rfl) (by kernel_rfl) (by kernel_rfl) (fun _ _ _ h => nomatch h.1) (.inl ⟨by rfl, ?_⟩) (by assumption) ?_
    rotate_left
    · (intro w' hSw; (try dsimp only at hSw); (have c0 := hSw.1.fd.at_ 0 _ rfl; have c1 := hSw.1.fd.at_ 1 _ rfl; have c2 := hSw.1.fd.at_ 2 _ rfl; have j14 := (hSw.1.job h3).at_ 14 _ rfl; have j16 := (hSw.1.job h3).at_ 16 _ rfl); go_simp <;> with_reducible rfl)
    (try simp only [Act.put, List.setIfInBounds_toArray, List.set_cons_zero, List.set_cons_succ])
    refine wpAnyH_take (i := 9) (oi := { dst := some 133, op := Go.Op.fieldAddr 33 (Go.Operand.tmp 4) 1, type := 0, pos := "outright.go:138", after := #[], guard := none }) (v := ?_) rfl (by kernel_rfl) (by kernel_rfl) (by kernel_rfl) (fun _ _ _ h => nomatch h.1) (.inl ⟨by rfl, ?_⟩) (by assumption) ?_
    rotate_left
    · (intro w' hSw; (try dsimp only at hSw); (have c0 := hSw.1.fd.at_ 0 _ rfl; have c1 := hSw.1.fd.at_ 1 _ rfl; have c2 := hSw.1.fd.at_ 2 _ rfl; have j14 := (hSw.1.job h3).at_ 14 _ rfl; have j16 := (hSw.1.job h3).at_ 16 _ rfl); go_simp <;> with_reducible rfl)
    (try simp only [Act.put, List.setIfInBounds_toArray, List.set_cons_zero, List.set_cons_succ])
    refine wpAnyH_take (i := 10) (oi := { dst := some 134, op := Go.Op.fieldAddr 30 (Go.Operand.tmp 133) 4, type := 0, pos := "outright.go:138", after := #[{ on := 9, ground := Go.Ground.data }], guard := none }) (v := ?_) rfl (by kernel_rfl) (by kernel_rfl) (by kernel_rfl) (fun _ _ _ h => nomatch h.1) (.inl ⟨by rfl, ?_⟩) (by assumption) ?_
    rotate_left
    · (intro w' hSw; (try dsimp only at hSw); (have c0 := hSw.1.fd.at_ 0 _ rfl; have c1 := hSw.1.fd.at_ 1 _ rfl; have c2 := hSw.1.fd.at_ 2 _ rfl; have j14 := (hSw.1.job h3).at_ 14 _ rfl; have j16 := (hSw.1.job h3).at_ 16 _ rfl); go_simp <;> with_reducible rfl)
    (try simp only [Act.put, List.setIfInBounds_toArray, List.set_cons_zero, List.set_cons_succ])
    refine wpAnyH_take (i := 11) (oi := { dst := some 135, op := Go.Op.load 3 (Go.Operand.tmp 134), type := 3, pos := "outright.go:138", after := #[{ on := 10, ground := Go.Ground.data }], guard := none }) (v := ?_) rfl (by kernel_rfl) (by kernel_rfl) (by kernel_rfl) (fun _ _ _ h => nomatch h.1) (.inl ⟨by rfl, ?_⟩) (by assumption) ?_
    rotate_left
    · (intro w' hSw; (try dsimp only at hSw); (have c0 := hSw.1.fd.at_ 0 _ rfl; have c1 := hSw.1.fd.at_ 1 _ rfl; have c2 := hSw.1.fd.at_ 2 _ rfl; have j14 := (hSw.1.job h3).at_ 14 _ rfl; have j16 := (hSw.1.job h3).at_ 16 _ rfl); go_simp <;> with_reducible rfl)
    (try simp only [Act.put, List.setIfInBounds_toArray, List.set_cons_zero, List.set_cons_succ])
    refine wpAnyH_take (i := 12) (oi := { dst := some 136, op := Go.Op.binOp Go.BinOp.lss 3 (Go.Operand.tmp 132) (Go.Operand.tmp 135) 3, type := 4, pos := "outright.go:138", after := #[{ on := 8, ground := Go.Ground.data }, { on := 11, ground := Go.Ground.data }], guard := none }) (v := ?_) rfl (by kernel_rfl) (by kernel_rfl) (by kernel_rfl) (fun _ _ _ h => nomatch h.1) (.inl ⟨by rfl, ?_⟩) (by assumption) ?_
    rotate_left
    · (intro w' hSw; (try dsimp only at hSw); (have c0 := hSw.1.fd.at_ 0 _ rfl; have c1 := hSw.1.fd.at_ 1 _ rfl; have c2 := hSw.1.fd.at_ 2 _ rfl; have j14 := (hSw.1.job h3).at_ 14 _ rfl; have j16 := (hSw.1.job h3).at_ 16 _ rfl); go_simp <;> with_reducible rfl)
    (try simp only [Act.put, List.setIfInBounds_toArray, List.set_cons_zero, List.set_cons_succ])
    refine wpAnyH_ready (rs := [3]) (by kernel_rfl) (by simp) ?_
    refine AllReadyH.cons (o := { dst := some 127, op := Go.Op.call { callee := Go.Callee.value (Go.Operand.func 13), args := #[Go.Operand.tmp 125, Go.Operand.tmp 126], argTypes := #[3, 22] }, type := 3, pos := "outright.go:138", after := #[{ on := 1, ground := Go.Ground.data }, { on := 2, ground := Go.Ground.data }], guard := none }) rfl (fun K hK => ?_) ?_
    · go_simp
      go_at_call 13
      refine (far_any x.p (by omega) sa sn sc shl _ HN.out (by have := HN.out; have := HI.out.len; have := HCL.out; omega) HL.out (hS0.1.sh.is)).mono ?_
      rintro e w1 ⟨rfl, hb1⟩
      go_wp2_with fail
      refine hK.out _ _ ⟨hS0.1.next hb1, hS0.2.below hb1 hS0.2.lt⟩ (fun hS1 => ?_)
      clear hK K
      (try simp only [Act.put, List.setIfInBounds_toArray, List.set_cons_zero, List.set_cons_succ])
      refine wpAnyH_take (i := 6) (oi := { dst := some 130, op := Go.Op.binOp Go.BinOp.leq 3 (Go.Operand.tmp 127) (Go.Operand.tmp 129) 3, type := 4, pos := "outright.go:138", after := #[{ on := 3, ground := Go.Ground.data }, { on := 5, ground := Go.Ground.data }], guard := none }) (v := ?_) rfl (by kernel_rfl) (by kernel_rfl) (by kernel_rfl) (fun _ _ _ h => nomatch h.1) (.inl ⟨by rfl, ?_⟩) (by assumption) ?_
      rotate_left
      · (intro w' hSw; (try dsimp only at hSw); (have c0 := hSw.1.fd.at_ 0 _ rfl; have c1 := hSw.1.fd.at_ 1 _ rfl; have c2 := hSw.1.fd.at_ 2 _ rfl; have j14 := (hSw.1.job h3).at_ 14 _ rfl; have j16 := (hSw.1.job h3).at_ 16 _ rfl); go_simp <;> with_reducible rfl)
      (try simp only [Act.put, List.setIfInBounds_toArray, List.set_cons_zero, List.set_cons_succ])
      refine wpAnyH_take (i := 13) (oi := { dst := some 137, op := Go.Op.move (Go.Operand.tmp 136), type := 4, pos := "outright.go:138", after := #[{ on := 12, ground := Go.Ground.data }, { on := 3, ground := Go.Ground.chain }], guard := none }) (v := ?_) rfl (by kernel_rfl) (by kernel_rfl) (by kernel_rfl) (fun _ _ _ h => nomatch h.1) (.inl ⟨by rfl, ?_⟩) (by assumption) ?_
      rotate_left
      · (intro w' hSw; (try dsimp only at hSw); (have c0 := hSw.1.fd.at_ 0 _ rfl; have c1 := hSw.1.fd.at_ 1 _ rfl; have c2 := hSw.1.fd.at_ 2 _ rfl; have j14 := (hSw.1.job h3).at_ 14 _ rfl; have j16 := (hSw.1.job h3).at_ 16 _ rfl); go_simp <;> with_reducible rfl)
      (try simp only [Act.put, List.setIfInBounds_toArray, List.set_cons_zero, List.set_cons_succ])
      refine wpAnyH_take (i := 14) (oi := { dst := some 138, op := Go.Op.fieldAddr 37 (Go.Operand.tmp 6) 2, type := 0, pos := "outright.go:138", after := #[{ on := 13, ground := Go.Ground.guard }, { on := 21, ground := Go.Ground.gcOnly Go.Departure.lateStores }], guard := some (13, false) }) (v := ?_) rfl (by kernel_rfl) (by kernel_rfl) (by kernel_rfl) (fun _ _ _ h => nomatch h.1) (.inl ⟨by rfl, ?_⟩) (by assumption) ?_
      rotate_left
      · (intro w' hSw; (try dsimp only at hSw); (have c0 := hSw.1.fd.at_ 0 _ rfl; have c1 := hSw.1.fd.at_ 1 _ rfl; have c2 := hSw.1.fd.at_ 2 _ rfl; have j14 := (hSw.1.job h3).at_ 14 _ rfl; have j16 := (hSw.1.job h3).at_ 16 _ rfl); go_simp <;> with_reducible rfl)
      (try simp only [Act.put, List.setIfInBounds_toArray, List.set_cons_zero, List.set_cons_succ])
      refine wpAnyH_take (i := 15) (oi := { dst := some 139, op := Go.Op.load 3 (Go.Operand.tmp 138), type := 3, pos := "outright.go:138", after := #[{ on := 14, ground := Go.Ground.data }, { on := 13, ground := Go.Ground.guard }, { on := 21, ground := Go.Ground.gcOnly Go.Departure.lateStores }], guard := some (13, false) }) (v := ?_) rfl (by kernel_rfl) (by kernel_rfl) (by kernel_rfl) (fun _ _ _ h => nomatch h.1) (.inl ⟨by rfl, ?_⟩) (by assumption) ?_
      rotate_left
      · (intro w' hSw; (try dsimp only at hSw); (have c0 := hSw.1.fd.at_ 0 _ rfl; have c1 := hSw.1.fd.at_ 1 _ rfl; have c2 := hSw.1.fd.at_ 2 _ rfl; have j14 := (hSw.1.job h3).at_ 14 _ rfl; have j16 := (hSw.1.job h3).at_ 16 _ rfl); go_simp <;> with_reducible rfl)
      (try simp only [Act.put, List.setIfInBounds_toArray, List.set_cons_zero, List.set_cons_succ])
      refine wpAnyH_take (i := 16) (oi := { dst := some 140, op := Go.Op.fieldAddr 33 (Go.Operand.tmp 4) 1, type := 0, pos := "outright.go:138", after := #[{ on := 13, ground := Go.Ground.guard }, { on := 21, ground := Go.Ground.gcOnly Go.Departure.lateStores }], guard := some (13, false) }) (v := ?_) rfl (by kernel_rfl) (by kernel_rfl) (by kernel_rfl) (fun _ _ _ h => nomatch h.1) (.inl ⟨by rfl, ?_⟩) (by assumption) ?_
      rotate_left
      · (intro w' hSw; (try dsimp only at hSw); (have c0 := hSw.1.fd.at_ 0 _ rfl; have c1 := hSw.1.fd.at_ 1 _ rfl; have c2 := hSw.1.fd.at_ 2 _ rfl; have j14 := (hSw.1.job h3).at_ 14 _ rfl; have j16 := (hSw.1.job h3).at_ 16 _ rfl); go_simp <;> with_reducible rfl)
      (try simp only [Act.put, List.setIfInBounds_toArray, List.set_cons_zero, List.set_cons_succ])
      refine wpAnyH_take (i := 17) (oi := { dst := some 141, op := Go.Op.fieldAddr 30 (Go.Operand.tmp 140) 4, type := 0, pos := "outright.go:138", after := #[{ on := 16, ground := Go.Ground.data }, { on := 13, ground := Go.Ground.guard }, { on := 21, ground := Go.Ground.gcOnly Go.Departure.lateStores }], guard := some (13, false) }) (v := ?_) rfl (by kernel_rfl) (by kernel_rfl) (by kernel_rfl) (fun _ _ _ h => nomatch h.1) (.inl ⟨by rfl, ?_⟩) (by assumption) ?_
      rotate_left
      · (intro w' hSw; (try dsimp only at hSw); (have c0 := hSw.1.fd.at_ 0 _ rfl; have c1 := hSw.1.fd.at_ 1 _ rfl; have c2 := hSw.1.fd.at_ 2 _ rfl; have j14 := (hSw.1.job h3).at_ 14 _ rfl; have j16 := (hSw.1.job h3).at_ 16 _ rfl); go_simp <;> with_reducible rfl)
      (try simp only [Act.put, List.setIfInBounds_toArray, List.set_cons_zero, List.set_cons_succ])
      refine wpAnyH_take (i := 18) (oi := { dst := some 142, op := Go.Op.load 3 (Go.Operand.tmp 141), type := 3, pos := "outright.go:138", after := #[{ on := 17, ground := Go.Ground.data }, { on := 13, ground := Go.Ground.guard }, { on := 21, ground := Go.Ground.gcOnly Go.Departure.lateStores }], guard := some (13, false) }) (v := ?_) rfl (by kernel_rfl) (by kernel_rfl) (by kernel_rfl) (fun _ _ _ h => nomatch h.1) (.inl ⟨by rfl, ?_⟩) (by assumption) ?_
      rotate_left
      · (intro w' hSw; (try dsimp only at hSw); (have c0 := hSw.1.fd.at_ 0 _ rfl; have c1 := hSw.1.fd.at_ 1 _ rfl; have c2 := hSw.1.fd.at_ 2 _ rfl; have j14 := (hSw.1.job h3).at_ 14 _ rfl; have j16 := (hSw.1.job h3).at_ 16 _ rfl); go_simp <;> with_reducible rfl)
      (try simp only [Act.put, List.setIfInBounds_toArray, List.set_cons_zero, List.set_cons_succ])
      refine wpAnyH_take (i := 19) (oi := { dst := some 143, op := Go.Op.binOp Go.BinOp.lss 3 (Go.Operand.tmp 139) (Go.Operand.tmp 142) 3, type := 4, pos := "outright.go:138", after := #[{ on := 15, ground := Go.Ground.data }, { on := 18, ground := Go.Ground.data }, { on := 13, ground := Go.Ground.guard }, { on := 21, ground := Go.Ground.gcOnly Go.Departure.lateStores }], guard := some (13, false) }) (v := ?_) rfl (by kernel_rfl) (by kernel_rfl) (by kernel_rfl) (fun _ _ _ h => nomatch h.1) (.inl ⟨by rfl, ?_⟩) (by assumption) ?_
      rotate_left
      · (intro w' hSw; (try dsimp only at hSw); (have c0 := hSw.1.fd.at_ 0 _ rfl; have c1 := hSw.1.fd.at_ 1 _ rfl; have c2 := hSw.1.fd.at_ 2 _ rfl; have j14 := (hSw.1.job h3).at_ 14 _ rfl; have j16 := (hSw.1.job h3).at_ 16 _ rfl); go_simp <;> with_reducible rfl)
      (try simp only [Act.put, List.setIfInBounds_toArray, List.set_cons_zero, List.set_cons_succ])
      refine wpAnyH_take (i := 20) (oi := { dst := some 144, op := Go.Op.pick (Go.Operand.tmp 137) (Go.Operand.const (Go.Value.bool true)) (Go.Operand.tmp 143), type := 4, pos := "outright.go:138", after := #[{ on := 13, ground := Go.Ground.data }, { on := 19, ground := Go.Ground.data }, { on := 21, ground := Go.Ground.gcOnly Go.Departure.lateStores }], guard := none }) (v := ?_) rfl (by kernel_rfl) (by kernel_rfl) (by kernel_rfl) (fun _ _ _ h => nomatch h.1) (.inl ⟨by rfl, ?_⟩) (by assumption) ?_
      rotate_left
      · (intro w' hSw; (try dsimp only at hSw); (have c0 := hSw.1.fd.at_ 0 _ rfl; have c1 := hSw.1.fd.at_ 1 _ rfl; have c2 := hSw.1.fd.at_ 2 _ rfl; have j14 := (hSw.1.job h3).at_ 14 _ rfl; have j16 := (hSw.1.job h3).at_ 16 _ rfl); go_simp <;> with_reducible rfl)
      (try simp only [Act.put, List.setIfInBounds_toArray, List.set_cons_zero, List.set_cons_succ])
      refine wpAnyH_ready (rs := [21]) (by kernel_rfl) (by simp) ?_
      refine AllReadyH.cons (o := { dst := some 19, op := Go.Op.assign (Go.Operand.tmp 130), type := 4, pos := "outright.go:138", after := #[{ on := 6, ground := Go.Ground.data }, { on := 13, ground := Go.Ground.chain }, { on := 0, ground := Go.Ground.phase }, { on := 1, ground := Go.Ground.phase }, { on := 2, ground := Go.Ground.phase }, { on := 3, ground := Go.Ground.phase }, { on := 4, ground := Go.Ground.phase }, { on := 5, ground := Go.Ground.phase }, { on := 6, ground := Go.Ground.phase }, { on := 7, ground := Go.Ground.textOnly Go.Departure.lateStores }, { on := 8, ground := Go.Ground.textOnly Go.Departure.lateStores }, { on := 9, ground := Go.Ground.textOnly Go.Departure.lateStores }, { on := 10, ground := Go.Ground.textOnly Go.Departure.lateStores }, { on := 11, ground := Go.Ground.textOnly Go.Departure.lateStores }, { on := 12, ground := Go.Ground.textOnly Go.Departure.lateStores }, { on := 13, ground := Go.Ground.textOnly Go.Departure.lateStores }, { on := 14, ground := Go.Ground.textOnly Go.Departure.lateStores }, { on := 15, ground := Go.Ground.textOnly Go.Departure.lateStores }, { on := 16, ground := Go.Ground.textOnly Go.Departure.lateStores }, { on := 17, ground := Go.Ground.textOnly Go.Departure.lateStores }, { on := 18, ground := Go.Ground.textOnly Go.Departure.lateStores }, { on := 19, ground := Go.Ground.textOnly Go.Departure.lateStores }, { on := 20, ground := Go.Ground.textOnly Go.Departure.lateStores }], guard := none }) rfl (fun K hK => ?_) ?_
      · go_simp
        refine hK.out _ _ hS1 (fun hS2 => ?_)
        clear hK K
        (try simp only [Act.put, List.setIfInBounds_toArray, List.set_cons_zero, List.set_cons_succ])
        refine wpAnyH_ready (rs := [22]) (by kernel_rfl) (by simp) ?_
        refine AllReadyH.cons (o := { dst := some 20, op := Go.Op.assign (Go.Operand.tmp 144), type := 4, pos := "outright.go:138", after := #[{ on := 20, ground := Go.Ground.data }, { on := 21, ground := Go.Ground.chain }, { on := 0, ground := Go.Ground.phase }, { on := 1, ground := Go.Ground.phase }, { on := 2, ground := Go.Ground.phase }, { on := 3, ground := Go.Ground.phase }, { on := 4, ground := Go.Ground.phase }, { on := 5, ground := Go.Ground.phase }, { on := 6, ground := Go.Ground.phase }, { on := 7, ground := Go.Ground.phase }, { on := 8, ground := Go.Ground.phase }, { on := 9, ground := Go.Ground.phase }, { on := 10, ground := Go.Ground.phase }, { on := 11, ground := Go.Ground.phase }, { on := 12, ground := Go.Ground.phase }, { on := 13, ground := Go.Ground.phase }, { on := 14, ground := Go.Ground.phase }, { on := 15, ground := Go.Ground.phase }, { on := 16, ground := Go.Ground.phase }, { on := 17, ground := Go.Ground.phase }, { on := 18, ground := Go.Ground.phase }, { on := 19, ground := Go.Ground.phase }, { on := 20, ground := Go.Ground.phase }, { on := 21, ground := Go.Ground.phase }], guard := none }) rfl (fun K hK => ?_) ?_
        · go_simp
          refine hK.out _ _ hS2 (fun hS3 => ?_)
          clear hK K
          (try simp only [Act.put, List.setIfInBounds_toArray, List.set_cons_zero, List.set_cons_succ])
          refine wpAnyH_done (by kernel_rfl) ?_ _
          exact ⟨rfl, _, _, _, _, _, _, _, _, _, _, _, _, _, _, _, _, _, _, _, _, _, _, _, rfl, rfl, rfl, hS3.1, hS3.2⟩
        exact AllReadyH.nil
      exact AllReadyH.nil
    exact AllReadyH.nil
end Go.Proofs.Ytggokdmlijipjaa
/- The law ReedTrue: what the program answers. -/
namespace Go.Proofs.Ytggokdmlijipjaa
set_option linter.all false
open Go.RowKit
set_option maxHeartbeats 4000000 in
set_option maxRecDepth 1000000 in
theorem part13 {w0 w3 : World} {b g4 : Nat} {J : Jb} {ja : Option Addr} {jn jc : Nat} {la : Option Addr} {ln lc : Nat} {l : List Int} {g6 : Nat} {x : Fd} {sa : Option Addr} {sn sc : Nat} {shl : List Int} {w : World} {u0 u1 u8 u9 u10 u11 u12 u13 u14 u15 u16 u17 u18 u19 u20 u21 u22 u23 u24 u25 u26 u27 u28 u29 u30 u31 u32 u33 u34 u35 u36 u37 u38 u39 u40 u41 u42 u43 u44 u45 u46 u47 u48 u49 u50 u51 u52 u53 u54 u55 u56 u57 u58 u59 u60 u61 u62 u63 u64 u65 u66 u67 u68 u69 u70 u71 u72 u73 u74 u75 u76 u77 u78 u79 u80 u81 u82 u83 u84 u85 u86 u87 u88 u89 u90 u91 u92 u93 u94 u95 u96 u97 u98 u99 u100 u101 u102 u103 u104 u105 u106 u107 u108 u109 u110 u111 u112 u113 u114 u115 u116 u117 u118 u119 u120 u121 u122 u123 u124 u125 u126 u127 u128 u129 u130 u131 u132 u133 u134 u135 u136 u137 u138 u139 u140 u141 u142 u143 u144 u145 u146 u147 u148 u149 u150 u151 u152 u153 u154 u155 u156 u157 u158 u159 u160 u161 u162 u163 u164 u165 u166 u167 u168 u169 u170 u171 u172 u173 u174 u175 u176 u177 u178 u179 u180 u181 u182 u183 u184 u185 u186 u187 u188 u189 u190 u191 u192 u193 u194 u195 u196 u197 u198 u199 u200 u201 u202 u203 u204 : Value} (hfine : FineOK) (htun : TunOK) (h3 : L3 w0 w3 b g4 J ja jn jc la ln l) (hs : LS w3 b g6 x sa shl w) (hin : Ins shl (conds J.sh)) (hsn : sn = shl.length) (hx : (afterS J J.tg l).has x) : Code.wp Try.prog rest13 (QL w0) ⟨#[u0, u1, (.bool false), (.pointer (some ⟨b, 0, none⟩)), (.pointer (some ⟨g4, 0, none⟩)), (.slice la ln lc), (.pointer (some ⟨g6, 0, none⟩)), (.slice sa sn sc), u8, u9, u10, u11, u12, u13, u14, u15, u16, u17, u18, u19, u20, u21, u22, u23, u24, u25, u26, u27, u28, u29, u30, u31, u32, u33, u34, u35, u36, u37, u38, u39, u40, u41, u42, u43, u44, u45, u46, u47, u48, u49, u50, u51, u52, u53, u54, u55, u56, u57, u58, u59, u60, u61, u62, u63, u64, u65, u66, u67, u68, u69, u70, u71, u72, u73, u74, u75, u76, u77, u78, u79, u80, u81, u82, u83, u84, u85, u86, u87, u88, u89, u90, u91, u92, u93, u94, u95, u96, u97, u98, u99, u100, u101, u102, u103, u104, u105, u106, u107, u108, u109, u110, u111, u112, u113, u114, u115, u116, u117, u118, u119, u120, u121, u122, u123, u124, u125, u126, u127, u128, u129, u130, u131, u132, u133, u134, u135, u136, u137, u138, u139, u140, u141, u142, u143, u144, u145, u146, u147, u148, u149, u150, u151, u152, u153, u154, u155, u156, u157, u158, u159, u160, u161, u162, u163, u164, u165, u166, u167, u168, u169, u170, u171, u172, u173, u174, u175, u176, u177, u178, u179, u180, u181, u182, u183, u184, u185, u186, u187, u188, u189, u190, u191, u192, u193, u194, u195, u196, u197, u198, u199, u200, u201, u202, u203, u204], []⟩ w := by
  have hjm : jn ≤ 9223372036854775807 := by have h4 := (check_ok h3.ck).inn.len; have := h3.ejn; omega
  have hok := check_ok h3.ck
  have hlm : ln ≤ 9223372036854775807 := by have := h3.l6; omega
  have Hf0 := hidMk (filed_0 h3.ck (by have := h3.eln; have := h3.l6; omega) h3.l12)
  have HFB := hidMk (filed_in Hf0.out)
  obtain ⟨T, hT⟩ : ∃ T, afterS J J.tg l = T := ⟨_, rfl⟩
  have HT := hidMk hT
  rw [hT] at hx
  have HTI : Hid (T.In 200) := by
    have h1 := afterS_in J (hok.inn.mono (by decide)) l J.tg 100 hok.inn.tg
    have := h3.eln
    have := h3.l6
    rw [hT] at h1
    exact h1.mono (by omega)
  have hwi := hok.inn.wi
  have Hwo : Hid (farI x.p shl ≤ worstI J T) := far_worst J T x.p hx.p shl hin
  have Hsp : Hid (RightI (spoilI J.le T) (decide (x.t < J.le ∨ x.r < J.le))) := RightI.of (spoil_right J.le T x hx)
  have Hfi : Hid (RightI (fineI J T) (decide (farI x.p shl ≤ J.wi ∧ ¬ (x.t < J.le ∨ x.r < J.le)))) := RightI.of (fine_right J hwi.1 T x hx shl hin)
  have HS := hidMk hs
  have HFi := hidMk hfine
  have HTu := hidMk htun
  have H3 := hidMk h3
  have HI := hidMk hin
  have HN := hidMk hsn
  have HX := hidMk hx
  clear hs hfine htun h3 hin hsn hx hT hwi hok
  rw [rest13_eq]
  have hj := HS.out.job H3.out
  go_wp2_with (refine wpList_load_row rfl 33 _ rfl g4 rfl _ (jobC J (.slice ja jn jc)) _ _ hj Try.underlying33 rfl szJob ?_)
  refine (afterF_any J ja jn jc la ln lc l _ H3.out.ejn hjm (HS.out.rg H3.out) H3.out.eln hlm (HS.out.st H3.out)).mono ?_
  rintro e w2 ⟨he, hb2⟩
  rw [if_pos Hf0.out, HT.out] at he
  subst he
  have HS2 := hidMk (HS.out.next hb2)
  clear HS hb2 hj
  have HS := HS2
  clear HS2
  have ha0 : Bk (w2.alloc (.cells #[.int .i64 0, .int .i64 0, .int .i64 0, .int .i64 0, .int .i64 0, .int .i64 0] 28)) w2.heap.size 28 #[.int .i64 0, .int .i64 0, .int .i64 0, .int .i64 0, .int .i64 0, .int .i64 0] := Bk.new _ _ _
  go_wp2_with (refine wpList_store_row rfl 28 _ _ rfl w2.heap.size (tonC T) rfl rfl _ _ ha0 szTongue rfl (oneTon _) ?_; rw [World.setRow_alloc_new])
  have HS3 := hidMk (HS.out.next ((Below.refl _ _).alloc (Nat.le_refl _) (.cells (tonC T) 28)))
  have HA := hidMk (Bk.new w2 28 (tonC T))
  clear HS ha0
  have HS := HS3
  clear HS3
  obtain ⟨g13, hg13⟩ : ∃ g, g = w2.heap.size := ⟨_, rfl⟩
  rw [← hg13] at HA ⊢
  generalize hW : w2.alloc (.cells (tonC T) 28) = w5 at HS HA ⊢
  clear hW hg13
  rw [rest14_eq]
  have hj := HS.out.job H3.out
  go_wp2_with (refine wpList_load_row rfl 33 _ rfl g4 rfl _ (jobC J (.slice ja jn jc)) _ _ hj Try.underlying33 rfl szJob ?_)
  refine (worstL_ok J l Hf0.out ja jn jc la ln lc _ H3.out.ejn hjm (HS.out.rg H3.out) H3.out.eln hlm (HS.out.st H3.out)).mono ?_
  rintro e w2 ⟨he, hb2⟩
  rw [HT.out] at he
  replace he : e = .returned (.tuple #[.int .i64 (worstI J T), .int .i64 0]) := he
  subst he
  have HS2 := hidMk (HS.out.next hb2)
  have HA2 := hidMk (HA.out.below hb2 HA.out.lt)
  clear HS HA hb2 hj
  have HS := HS2
  have HA := HA2
  clear HS2 HA2
  go_wp2_with fail
  rw [rest15_eq]
  have hj := HS.out.job H3.out
  go_wp2_with (refine wpList_load_row rfl 33 _ rfl g4 rfl _ (jobC J (.slice ja jn jc)) _ _ hj Try.underlying33 rfl szJob ?_)
  refine (spoiledL_ok J l Hf0.out ja jn jc la ln lc _ H3.out.ejn hjm (HS.out.rg H3.out) H3.out.eln hlm (HS.out.st H3.out)).mono ?_
  rintro e w2 ⟨he, hb2⟩
  rw [HT.out] at he
  replace he : e = .returned (.tuple #[.int .i64 (spoilI J.le T), .int .i64 0]) := he
  subst he
  have HS2 := hidMk (HS.out.next hb2)
  have HA2 := hidMk (HA.out.below hb2 HA.out.lt)
  clear HS HA hb2 hj
  have HS := HS2
  have HA := HA2
  clear HS2 HA2
  go_wp2_with fail
  rw [rest16_eq]
  have hj := HS.out.job H3.out
  go_wp2_with (refine wpList_load_row rfl 33 _ rfl g4 rfl _ (jobC J (.slice ja jn jc)) _ _ hj Try.underlying33 rfl szJob ?_)
  refine (fineL_ok HFi.out J l Hf0.out ja jn jc la ln lc _ H3.out.ejn hjm (HS.out.rg H3.out) H3.out.eln hlm (HS.out.st H3.out)).mono ?_
  rintro e w2 ⟨he, hb2⟩
  rw [HT.out] at he
  replace he : e = .returned (.tuple #[.int .i64 (fineI J T), .int .i64 0]) := he
  subst he
  have HS2 := hidMk (HS.out.next hb2)
  have HA2 := hidMk (HA.out.below hb2 HA.out.lt)
  clear HS HA hb2 hj
  have HS := HS2
  have HA := HA2
  clear HS2 HA2
  go_wp2_with fail
  exact part17 HFi.out HTu.out H3.out HS.out HI.out HN.out HX.out HTI.out HA.out Hwo.out Hsp.out Hfi.out
end Go.Proofs.Ytggokdmlijipjaa
