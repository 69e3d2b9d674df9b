/- Part 21 of the proof: TrueP18. -/
import Derived.Test.YtggokdmlijipjaaT20
/- The law ReedTrue: its end. -/
namespace Go.Proofs.Ytggokdmlijipjaa
set_option linter.all false
open Go.RowKit
def TunOK : Prop := ∀ w : World, Calls Try.prog 21 #[] w fun e w' => e = .returned (.bool true) ∧ Below w.heap.size w w'
theorem conds_le4 {J : Jb} (h : J.check = 0) : (conds J.sh).length ≤ 4 := by
  have h4 := (check_ok h).inn.len
  unfold conds
  split
  · decide
  · omega
theorem ins_bnd {J : Jb} {shl : List Int} (h : J.check = 0) (hi : Ins shl (conds J.sh)) : ∀ s ∈ shl, -100 ≤ s ∧ s ≤ 100 := by
  have hb : ∀ s ∈ conds J.sh, -60 ≤ s.1 ∧ s.2 ≤ 60 := by
    intro s hs
    unfold conds at hs
    split at hs
    · simp only [List.mem_cons, List.not_mem_nil, or_false] at hs
      subst hs
      decide
    · have := (check_ok h).inn.sh s hs
      omega
  exact Ins.all (Q := fun s => -60 ≤ s.1 ∧ s.2 ≤ 60) (fun n s h1 h2 => by omega) hi hb
section
variable {P : Program} {ops : Array Oper} {Q : Exit → Act → World → Prop} {a : Act} {w : World} {i : Nat} {rest : List Nat} {o : Oper}
theorem wp_region_l {id : Nat} (l : List Nat) (hl : List.range ops.size = l) (h : wpOps P ops Q l a w) : (Code.region id ops false).wp P Q a w := wp_region (by rw [hl]; exact h)
theorem opsL_take {v : Value} (ho : ops[i]? = some o) (hw : Region.wanted o (yielded ops a.tmps) = true) (hv : (execOp a.eval o).run P w = .ok (.value v) w) (h : wpOps P ops Q rest (a.put o.dst v) w) : wpOps P ops Q (i :: rest) a w := by
  simp only [wpOps, ho, hw, if_true]
  exact .inl (by simp only [Oper.wp, hv, Oper.upon]; exact h)
theorem opsL_skip (ho : ops[i]? = some o) (hw : Region.wanted o (yielded ops a.tmps) = false) (h : wpOps P ops Q rest (a.put o.dst undef) w) : wpOps P ops Q (i :: rest) a w := by
  simp only [wpOps, ho, hw, if_false, Bool.false_eq_true]
  exact h
theorem opsL_step (ho : ops[i]? = some o) (h : ∀ K' : Act → World → Prop, Shut (∀ a w, wpOps P ops Q rest a w → K' a w) → if Region.wanted o (yielded ops a.tmps) = true then Oper.wp P o a w K' Q else K' (a.put o.dst undef) w) : wpOps P ops Q (i :: rest) a w := by
  have := h (wpOps P ops Q rest) (fun _ _ h => h)
  simp only [wpOps, ho]
  split
  · rename_i hw
    rw [if_pos hw] at this
    exact .inl this
  · rename_i hw
    rw [if_neg hw] at this
    exact this
end
set_option maxHeartbeats 4000000 in
set_option maxRecDepth 1000000 in
theorem part18 {w0 w3 : World} {b g4 : Nat} {J : Jb} {ja : Option Addr} {jn jc : Nat} {la : Option Addr} {ln lc : Nat} {l : List Int} {g6 : Nat} {x : Fd} {sa : Option Addr} {sn sc : Nat} {shl : List Int} {T : Tg} {g13 : Nat} {wo sp fi : Int} {isB thB : Bool} {w : World} {u0 u1 u8 u10 u12 u21 u22 u23 u24 u25 u26 u27 u28 u29 u30 u31 u32 u33 u34 u35 u36 u37 u38 u39 u40 u41 u42 u43 u44 u45 u46 u47 u48 u49 u50 u51 u52 u53 u54 u55 u56 u57 u58 u59 u60 u61 u62 u63 u64 u65 u66 u67 u68 u69 u70 u71 u72 u73 u74 u75 u76 u77 u78 u79 u80 u81 u82 u83 u84 u85 u86 u87 u88 u89 u90 u91 u92 u93 u94 u95 u96 u97 u98 u99 u100 u101 u102 u103 u104 u105 u106 u107 u108 u109 u110 u111 u112 u113 u114 u115 u116 u117 u118 u119 u120 u121 u122 u123 u124 u125 u126 u127 u128 u129 u130 u131 u132 u133 u134 u135 u136 u137 u138 u139 u140 u141 u142 u143 u144 u145 u146 u147 u148 u149 u150 u151 u152 u153 u154 u155 u156 u157 u158 u159 u160 u161 u162 u163 u164 u165 u166 u167 u168 u169 u170 u171 u172 u173 u174 u175 u176 u177 u178 u179 u180 u181 u182 u183 u184 u185 u186 u187 u188 u189 u190 u191 u192 u193 u194 u195 u196 u197 u198 u199 u200 u201 u202 u203 u204 : Value} (hfine : FineOK) (htun : TunOK) (h3 : L3 w0 w3 b g4 J ja jn jc la ln l) (hs : LS w3 b g6 x sa shl w) (hin : Ins shl (conds J.sh)) (hsn : sn = shl.length) (hx : T.has x) (hT : T.In 200) (ha : Bk w g13 28 (tonC T)) (hfar : farI x.p shl ≤ wo) (hsp : RightI sp thB) (hfi : RightI fi (isB && !thB)) : Code.wp Try.prog rest18 (QL w0) ⟨#[u0, u1, (.bool false), (.pointer (some ⟨b, 0, none⟩)), (.pointer (some ⟨g4, 0, none⟩)), (.slice la ln lc), (.pointer (some ⟨g6, 0, none⟩)), (.slice sa sn sc), u8, (.int .i64 0), u10, (.int .i64 0), u12, (.pointer (some ⟨g13, 0, none⟩)), (.int .i64 wo), (.int .i64 sp), (.int .i64 0), (.int .i64 fi), (.int .i64 0), (.bool isB), (.bool thB), u21, u22, u23, u24, u25, u26, u27, u28, u29, u30, u31, u32, u33, u34, u35, u36, u37, u38, u39, u40, u41, u42, u43, u44, u45, u46, u47, u48, u49, u50, u51, u52, u53, u54, u55, u56, u57, u58, u59, u60, u61, u62, u63, u64, u65, u66, u67, u68, u69, u70, u71, u72, u73, u74, u75, u76, u77, u78, u79, u80, u81, u82, u83, u84, u85, u86, u87, u88, u89, u90, u91, u92, u93, u94, u95, u96, u97, u98, u99, u100, u101, u102, u103, u104, u105, u106, u107, u108, u109, u110, u111, u112, u113, u114, u115, u116, u117, u118, u119, u120, u121, u122, u123, u124, u125, u126, u127, u128, u129, u130, u131, u132, u133, u134, u135, u136, u137, u138, u139, u140, u141, u142, u143, u144, u145, u146, u147, u148, u149, u150, u151, u152, u153, u154, u155, u156, u157, u158, u159, u160, u161, u162, u163, u164, u165, u166, u167, u168, u169, u170, u171, u172, u173, u174, u175, u176, u177, u178, u179, u180, u181, u182, u183, u184, u185, u186, u187, u188, u189, u190, u191, u192, u193, u194, u195, u196, u197, u198, u199, u200, u201, u202, u203, u204], []⟩ w := by
  have hok := check_ok h3.ck
  have HN := hidMk hsn
  have HI := hidMk hin
  have HX := hidMk hx
  have hTb := HX.out.bnd hT
  obtain ⟨⟨hxp1, hxp2⟩, _, _⟩ := hTb
  have HSP := hidMk hsp
  have HFI := hidMk hfi
  have HTU := hidMk htun
  have H3 := hidMk h3
  have HL : Hid (∀ s ∈ shl, -100 ≤ s ∧ s ≤ 100) := ins_bnd h3.ck HI.out
  have HCL : Hid ((conds J.sh).length ≤ 4) := conds_le4 h3.ck
  have HP := hidMk (show LS w3 b g6 x sa shl w ∧ Bk w g13 28 (tonC T) from ⟨hs, ha⟩)
  clear hsn hin hx hT hsp hfi hs ha htun hfine hok h3
  rw [rest18_eq]
  unfold QL
  refine wp_seq_k fun K0 hK0 => ?_
  refine wp_region_l [0, 1, 2, 3, 4, 5, 6, 7, 8, 9, 10, 11, 12, 13, 14, 15, 16, 17, 18, 19, 20, 21, 22, 23, 24, 25, 26, 27, 28, 29, 30, 31, 32, 33, 34, 35, 36, 37, 38, 39, 40, 41, 42, 43, 44, 45, 46, 47, 48, 49, 50, 51, 52, 53, 54, 55, 56, 57, 58, 59, 60] (by kernel_rfl) ?_
  refine opsL_take (o := ⟨some 145, .move (.tmp 9), 40, "outright.go:139", #[], none⟩) (v := ?_) rfl (by rfl) ?_ ?_
  rotate_left
  · (skip; go_simp <;> with_reducible rfl)
  (try simp only [Act.put, List.setIfInBounds_toArray, List.set_cons_zero, List.set_cons_succ])
  refine opsL_take (o := ⟨some 146, .binOp .eql 40 (.tmp 145) (.const (.int .i64 0)) 40, 4, "outright.go:139", #[⟨0, .data⟩], none⟩) (v := ?_) rfl (by rfl) ?_ ?_
  rotate_left
  · (skip; go_simp <;> with_reducible rfl)
  (try simp only [Act.put, List.setIfInBounds_toArray, List.set_cons_zero, List.set_cons_succ])
  refine opsL_take (o := ⟨some 147, .move (.tmp 146), 4, "outright.go:139", #[⟨1, .data⟩], none⟩) (v := ?_) rfl (by rfl) ?_ ?_
  rotate_left
  · (skip; go_simp <;> with_reducible rfl)
  (try simp only [Act.put, List.setIfInBounds_toArray, List.set_cons_zero, List.set_cons_succ])
  refine opsL_take (o := ⟨some 148, .move (.tmp 11), 40, "outright.go:139", #[⟨2, .guard⟩], some (2, true)⟩) (v := ?_) rfl (by rfl) ?_ ?_
  rotate_left
  · (skip; go_simp <;> with_reducible rfl)
  (try simp only [Act.put, List.setIfInBounds_toArray, List.set_cons_zero, List.set_cons_succ])
  refine opsL_take (o := ⟨some 149, .binOp .eql 40 (.tmp 148) (.const (.int .i64 0)) 40, 4, "outright.go:139", #[⟨3, .data⟩, ⟨2, .guard⟩], some (2, true)⟩) (v := ?_) rfl (by rfl) ?_ ?_
  rotate_left
  · (skip; go_simp <;> with_reducible rfl)
  (try simp only [Act.put, List.setIfInBounds_toArray, List.set_cons_zero, List.set_cons_succ])
  refine opsL_take (o := ⟨some 150, .pick (.tmp 147) (.tmp 149) (.const (.bool false)), 4, "outright.go:139", #[⟨2, .data⟩, ⟨4, .data⟩], none⟩) (v := ?_) rfl (by rfl) ?_ ?_
  rotate_left
  · (skip; go_simp <;> with_reducible rfl)
  (try simp only [Act.put, List.setIfInBounds_toArray, List.set_cons_zero, List.set_cons_succ])
  refine opsL_take (o := ⟨some 151, .move (.tmp 150), 4, "outright.go:139", #[⟨5, .data⟩, ⟨2, .chain⟩], none⟩) (v := ?_) rfl (by rfl) ?_ ?_
  rotate_left
  · (skip; go_simp <;> with_reducible rfl)
  (try simp only [Act.put, List.setIfInBounds_toArray, List.set_cons_zero, List.set_cons_succ])
  refine opsL_take (o := ⟨some 152, .move (.tmp 16), 40, "outright.go:139", #[⟨6, .guard⟩], some (6, true)⟩) (v := ?_) rfl (by rfl) ?_ ?_
  rotate_left
  · (skip; go_simp <;> with_reducible rfl)
  (try simp only [Act.put, List.setIfInBounds_toArray, List.set_cons_zero, List.set_cons_succ])
  refine opsL_take (o := ⟨some 153, .binOp .eql 40 (.tmp 152) (.const (.int .i64 0)) 40, 4, "outright.go:139", #[⟨7, .data⟩, ⟨6, .guard⟩], some (6, true)⟩) (v := ?_) rfl (by rfl) ?_ ?_
  rotate_left
  · (skip; go_simp <;> with_reducible rfl)
  (try simp only [Act.put, List.setIfInBounds_toArray, List.set_cons_zero, List.set_cons_succ])
  refine opsL_take (o := ⟨some 154, .pick (.tmp 151) (.tmp 153) (.const (.bool false)), 4, "outright.go:139", #[⟨6, .data⟩, ⟨8, .data⟩], none⟩) (v := ?_) rfl (by rfl) ?_ ?_
  rotate_left
  · (skip; go_simp <;> with_reducible rfl)
  (try simp only [Act.put, List.setIfInBounds_toArray, List.set_cons_zero, List.set_cons_succ])
  refine opsL_take (o := ⟨some 155, .move (.tmp 154), 4, "outright.go:139", #[⟨9, .data⟩, ⟨6, .chain⟩], none⟩) (v := ?_) rfl (by rfl) ?_ ?_
  rotate_left
  · (skip; go_simp <;> with_reducible rfl)
  (try simp only [Act.put, List.setIfInBounds_toArray, List.set_cons_zero, List.set_cons_succ])
  refine opsL_take (o := ⟨some 156, .move (.tmp 18), 40, "outright.go:139", #[⟨10, .guard⟩], some (10, true)⟩) (v := ?_) rfl (by rfl) ?_ ?_
  rotate_left
  · (skip; go_simp <;> with_reducible rfl)
  (try simp only [Act.put, List.setIfInBounds_toArray, List.set_cons_zero, List.set_cons_succ])
  refine opsL_take (o := ⟨some 157, .binOp .eql 40 (.tmp 156) (.const (.int .i64 0)) 40, 4, "outright.go:139", #[⟨11, .data⟩, ⟨10, .guard⟩], some (10, true)⟩) (v := ?_) rfl (by rfl) ?_ ?_
  rotate_left
  · (skip; go_simp <;> with_reducible rfl)
  (try simp only [Act.put, List.setIfInBounds_toArray, List.set_cons_zero, List.set_cons_succ])
  refine opsL_take (o := ⟨some 158, .pick (.tmp 155) (.tmp 157) (.const (.bool false)), 4, "outright.go:139", #[⟨10, .data⟩, ⟨12, .data⟩], none⟩) (v := ?_) rfl (by rfl) ?_ ?_
  rotate_left
  · (skip; go_simp <;> with_reducible rfl)
  (try simp only [Act.put, List.setIfInBounds_toArray, List.set_cons_zero, List.set_cons_succ])
  refine opsL_take (o := ⟨some 159, .move (.tmp 158), 4, "outright.go:139", #[⟨13, .data⟩, ⟨10, .chain⟩], none⟩) (v := ?_) rfl (by rfl) ?_ ?_
  rotate_left
  · (skip; go_simp <;> with_reducible rfl)
  (try simp only [Act.put, List.setIfInBounds_toArray, List.set_cons_zero, List.set_cons_succ])
  refine opsL_take (o := ⟨some 160, .fieldAddr 28 (.tmp 13) 0, 0, "outright.go:139", #[⟨14, .guard⟩], some (14, true)⟩) (v := ?_) rfl (by rfl) ?_ ?_
  rotate_left
  · (skip; go_simp <;> with_reducible rfl)
  (try simp only [Act.put, List.setIfInBounds_toArray, List.set_cons_zero, List.set_cons_succ])
  refine opsL_take (o := ⟨some 161, .load 26 (.tmp 160), 26, "outright.go:139", #[⟨15, .data⟩, ⟨14, .guard⟩], some (14, true)⟩) (v := ?_) rfl (by rfl) ?_ ?_
  rotate_left
  · ((have c0 := HP.out.1.fd.at_ 0 (.int .i64 x.p) rfl; have c1 := HP.out.1.fd.at_ 1 (.int .i64 x.t) rfl; have c2 := HP.out.1.fd.at_ 2 (.int .i64 x.r) rfl; have a0 := HP.out.2.at_ 0 (.int .i64 T.p1) rfl; have a1 := HP.out.2.at_ 1 (.int .i64 T.p2) rfl; have a2 := HP.out.2.at_ 2 (.int .i64 T.t1) rfl; have a3 := HP.out.2.at_ 3 (.int .i64 T.t2) rfl; have a4 := HP.out.2.at_ 4 (.int .i64 T.r1) rfl; have a5 := HP.out.2.at_ 5 (.int .i64 T.r2) rfl); go_simp <;> with_reducible rfl)
  (try simp only [Act.put, List.setIfInBounds_toArray, List.set_cons_zero, List.set_cons_succ])
  refine opsL_take (o := ⟨some 162, .fieldAddr 37 (.tmp 6) 0, 0, "outright.go:139", #[⟨14, .guard⟩], some (14, true)⟩) (v := ?_) rfl (by rfl) ?_ ?_
  rotate_left
  · (skip; go_simp <;> with_reducible rfl)
  (try simp only [Act.put, List.setIfInBounds_toArray, List.set_cons_zero, List.set_cons_succ])
  refine opsL_take (o := ⟨some 163, .load 3 (.tmp 162), 3, "outright.go:139", #[⟨17, .data⟩, ⟨14, .guard⟩], some (14, true)⟩) (v := ?_) rfl (by rfl) ?_ ?_
  rotate_left
  · ((have c0 := HP.out.1.fd.at_ 0 (.int .i64 x.p) rfl; have c1 := HP.out.1.fd.at_ 1 (.int .i64 x.t) rfl; have c2 := HP.out.1.fd.at_ 2 (.int .i64 x.r) rfl; have a0 := HP.out.2.at_ 0 (.int .i64 T.p1) rfl; have a1 := HP.out.2.at_ 1 (.int .i64 T.p2) rfl; have a2 := HP.out.2.at_ 2 (.int .i64 T.t1) rfl; have a3 := HP.out.2.at_ 3 (.int .i64 T.t2) rfl; have a4 := HP.out.2.at_ 4 (.int .i64 T.r1) rfl; have a5 := HP.out.2.at_ 5 (.int .i64 T.r2) rfl); go_simp <;> with_reducible rfl)
  (try simp only [Act.put, List.setIfInBounds_toArray, List.set_cons_zero, List.set_cons_succ])
  refine opsL_step (o := ⟨some 164, .call { callee := .value (.func 14), args := #[.tmp 161, .tmp 163], argTypes := #[26, 3] }, 4, "outright.go:139", #[⟨16, .data⟩, ⟨18, .data⟩, ⟨14, .chain⟩, ⟨14, .guard⟩], some (14, true)⟩) rfl (fun K hK => ?_)
  go_simp
  go_at_call 14
  refine (in_true T.p1 T.p2 x.p _ HX.out.p).mono ?_
  rintro e w2 ⟨rfl, hb2⟩
  have HQ := hidMk (show LS w3 b g6 x sa shl w2 ∧ Bk w2 g13 28 (tonC T) from ⟨HP.out.1.next hb2, HP.out.2.below hb2 HP.out.2.lt⟩)
  clear HP hb2
  have HP := HQ
  clear HQ
  go_wp2_with fail
  refine hK.out _ _ ?_
  clear hK K
  (try simp only [Act.put, List.setIfInBounds_toArray, List.set_cons_zero, List.set_cons_succ])
  refine opsL_take (o := ⟨some 165, .pick (.tmp 159) (.tmp 164) (.const (.bool false)), 4, "outright.go:139", #[⟨14, .data⟩, ⟨19, .data⟩], none⟩) (v := ?_) rfl (by rfl) ?_ ?_
  rotate_left
  · (skip; go_simp <;> with_reducible rfl)
  (try simp only [Act.put, List.setIfInBounds_toArray, List.set_cons_zero, List.set_cons_succ])
  refine opsL_take (o := ⟨some 166, .move (.tmp 165), 4, "outright.go:139", #[⟨20, .data⟩, ⟨19, .chain⟩], none⟩) (v := ?_) rfl (by rfl) ?_ ?_
  rotate_left
  · (skip; go_simp <;> with_reducible rfl)
  (try simp only [Act.put, List.setIfInBounds_toArray, List.set_cons_zero, List.set_cons_succ])
  refine opsL_take (o := ⟨some 167, .fieldAddr 28 (.tmp 13) 1, 0, "outright.go:139", #[⟨21, .guard⟩], some (21, true)⟩) (v := ?_) rfl (by rfl) ?_ ?_
  rotate_left
  · (skip; go_simp <;> with_reducible rfl)
  (try simp only [Act.put, List.setIfInBounds_toArray, List.set_cons_zero, List.set_cons_succ])
  refine opsL_take (o := ⟨some 168, .load 26 (.tmp 167), 26, "outright.go:139", #[⟨22, .data⟩, ⟨21, .guard⟩], some (21, true)⟩) (v := ?_) rfl (by rfl) ?_ ?_
  rotate_left
  · ((have c0 := HP.out.1.fd.at_ 0 (.int .i64 x.p) rfl; have c1 := HP.out.1.fd.at_ 1 (.int .i64 x.t) rfl; have c2 := HP.out.1.fd.at_ 2 (.int .i64 x.r) rfl; have a0 := HP.out.2.at_ 0 (.int .i64 T.p1) rfl; have a1 := HP.out.2.at_ 1 (.int .i64 T.p2) rfl; have a2 := HP.out.2.at_ 2 (.int .i64 T.t1) rfl; have a3 := HP.out.2.at_ 3 (.int .i64 T.t2) rfl; have a4 := HP.out.2.at_ 4 (.int .i64 T.r1) rfl; have a5 := HP.out.2.at_ 5 (.int .i64 T.r2) rfl); go_simp <;> with_reducible rfl)
  (try simp only [Act.put, List.setIfInBounds_toArray, List.set_cons_zero, List.set_cons_succ])
  refine opsL_take (o := ⟨some 169, .fieldAddr 37 (.tmp 6) 1, 0, "outright.go:139", #[⟨21, .guard⟩], some (21, true)⟩) (v := ?_) rfl (by rfl) ?_ ?_
  rotate_left
  · (skip; go_simp <;> with_reducible rfl)
  (try simp only [Act.put, List.setIfInBounds_toArray, List.set_cons_zero, List.set_cons_succ])
  refine opsL_take (o := ⟨some 170, .load 3 (.tmp 169), 3, "outright.go:139", #[⟨24, .data⟩, ⟨21, .guard⟩], some (21, true)⟩) (v := ?_) rfl (by rfl) ?_ ?_
  rotate_left
  · ((have c0 := HP.out.1.fd.at_ 0 (.int .i64 x.p) rfl; have c1 := HP.out.1.fd.at_ 1 (.int .i64 x.t) rfl; have c2 := HP.out.1.fd.at_ 2 (.int .i64 x.r) rfl; have a0 := HP.out.2.at_ 0 (.int .i64 T.p1) rfl; have a1 := HP.out.2.at_ 1 (.int .i64 T.p2) rfl; have a2 := HP.out.2.at_ 2 (.int .i64 T.t1) rfl; have a3 := HP.out.2.at_ 3 (.int .i64 T.t2) rfl; have a4 := HP.out.2.at_ 4 (.int .i64 T.r1) rfl; have a5 := HP.out.2.at_ 5 (.int .i64 T.r2) rfl); go_simp <;> with_reducible rfl)
  (try simp only [Act.put, List.setIfInBounds_toArray, List.set_cons_zero, List.set_cons_succ])
  refine opsL_step (o := ⟨some 171, .call { callee := .value (.func 14), args := #[.tmp 168, .tmp 170], argTypes := #[26, 3] }, 4, "outright.go:139", #[⟨23, .data⟩, ⟨25, .data⟩, ⟨21, .chain⟩, ⟨21, .guard⟩], some (21, true)⟩) rfl (fun K hK => ?_)
  go_simp
  go_at_call 14
  refine (in_true T.t1 T.t2 x.t _ HX.out.t).mono ?_
  rintro e w2 ⟨rfl, hb2⟩
  have HQ := hidMk (show LS w3 b g6 x sa shl w2 ∧ Bk w2 g13 28 (tonC T) from ⟨HP.out.1.next hb2, HP.out.2.below hb2 HP.out.2.lt⟩)
  clear HP hb2
  have HP := HQ
  clear HQ
  go_wp2_with fail
  refine hK.out _ _ ?_
  clear hK K
  (try simp only [Act.put, List.setIfInBounds_toArray, List.set_cons_zero, List.set_cons_succ])
  refine opsL_take (o := ⟨some 172, .pick (.tmp 166) (.tmp 171) (.const (.bool false)), 4, "outright.go:139", #[⟨21, .data⟩, ⟨26, .data⟩], none⟩) (v := ?_) rfl (by rfl) ?_ ?_
  rotate_left
  · (skip; go_simp <;> with_reducible rfl)
  (try simp only [Act.put, List.setIfInBounds_toArray, List.set_cons_zero, List.set_cons_succ])
  refine opsL_take (o := ⟨some 173, .move (.tmp 172), 4, "outright.go:139", #[⟨27, .data⟩, ⟨26, .chain⟩], none⟩) (v := ?_) rfl (by rfl) ?_ ?_
  rotate_left
  · (skip; go_simp <;> with_reducible rfl)
  (try simp only [Act.put, List.setIfInBounds_toArray, List.set_cons_zero, List.set_cons_succ])
  refine opsL_take (o := ⟨some 174, .fieldAddr 28 (.tmp 13) 2, 0, "outright.go:139", #[⟨28, .guard⟩], some (28, true)⟩) (v := ?_) rfl (by rfl) ?_ ?_
  rotate_left
  · (skip; go_simp <;> with_reducible rfl)
  (try simp only [Act.put, List.setIfInBounds_toArray, List.set_cons_zero, List.set_cons_succ])
  refine opsL_take (o := ⟨some 175, .load 26 (.tmp 174), 26, "outright.go:139", #[⟨29, .data⟩, ⟨28, .guard⟩], some (28, true)⟩) (v := ?_) rfl (by rfl) ?_ ?_
  rotate_left
  · ((have c0 := HP.out.1.fd.at_ 0 (.int .i64 x.p) rfl; have c1 := HP.out.1.fd.at_ 1 (.int .i64 x.t) rfl; have c2 := HP.out.1.fd.at_ 2 (.int .i64 x.r) rfl; have a0 := HP.out.2.at_ 0 (.int .i64 T.p1) rfl; have a1 := HP.out.2.at_ 1 (.int .i64 T.p2) rfl; have a2 := HP.out.2.at_ 2 (.int .i64 T.t1) rfl; have a3 := HP.out.2.at_ 3 (.int .i64 T.t2) rfl; have a4 := HP.out.2.at_ 4 (.int .i64 T.r1) rfl; have a5 := HP.out.2.at_ 5 (.int .i64 T.r2) rfl); go_simp <;> with_reducible rfl)
  (try simp only [Act.put, List.setIfInBounds_toArray, List.set_cons_zero, List.set_cons_succ])
  refine opsL_take (o := ⟨some 176, .fieldAddr 37 (.tmp 6) 2, 0, "outright.go:139", #[⟨28, .guard⟩], some (28, true)⟩) (v := ?_) rfl (by rfl) ?_ ?_
  rotate_left
  · (skip; go_simp <;> with_reducible rfl)
  (try simp only [Act.put, List.setIfInBounds_toArray, List.set_cons_zero, List.set_cons_succ])
  refine opsL_take (o := ⟨some 177, .load 3 (.tmp 176), 3, "outright.go:139", #[⟨31, .data⟩, ⟨28, .guard⟩], some (28, true)⟩) (v := ?_) rfl (by rfl) ?_ ?_
  rotate_left
  · ((have c0 := HP.out.1.fd.at_ 0 (.int .i64 x.p) rfl; have c1 := HP.out.1.fd.at_ 1 (.int .i64 x.t) rfl; have c2 := HP.out.1.fd.at_ 2 (.int .i64 x.r) rfl; have a0 := HP.out.2.at_ 0 (.int .i64 T.p1) rfl; have a1 := HP.out.2.at_ 1 (.int .i64 T.p2) rfl; have a2 := HP.out.2.at_ 2 (.int .i64 T.t1) rfl; have a3 := HP.out.2.at_ 3 (.int .i64 T.t2) rfl; have a4 := HP.out.2.at_ 4 (.int .i64 T.r1) rfl; have a5 := HP.out.2.at_ 5 (.int .i64 T.r2) rfl); go_simp <;> with_reducible rfl)
  (try simp only [Act.put, List.setIfInBounds_toArray, List.set_cons_zero, List.set_cons_succ])
  refine opsL_step (o := ⟨some 178, .call { callee := .value (.func 14), args := #[.tmp 175, .tmp 177], argTypes := #[26, 3] }, 4, "outright.go:139", #[⟨30, .data⟩, ⟨32, .data⟩, ⟨28, .chain⟩, ⟨28, .guard⟩], some (28, true)⟩) rfl (fun K hK => ?_)
  go_simp
  go_at_call 14
  refine (in_true T.r1 T.r2 x.r _ HX.out.r).mono ?_
  rintro e w2 ⟨rfl, hb2⟩
  have HQ := hidMk (show LS w3 b g6 x sa shl w2 ∧ Bk w2 g13 28 (tonC T) from ⟨HP.out.1.next hb2, HP.out.2.below hb2 HP.out.2.lt⟩)
  clear HP hb2
  have HP := HQ
  clear HQ
  go_wp2_with fail
  refine hK.out _ _ ?_
  clear hK K
  (try simp only [Act.put, List.setIfInBounds_toArray, List.set_cons_zero, List.set_cons_succ])
  refine opsL_take (o := ⟨some 179, .pick (.tmp 173) (.tmp 178) (.const (.bool false)), 4, "outright.go:139", #[⟨28, .data⟩, ⟨33, .data⟩], none⟩) (v := ?_) rfl (by rfl) ?_ ?_
  rotate_left
  · (skip; go_simp <;> with_reducible rfl)
  (try simp only [Act.put, List.setIfInBounds_toArray, List.set_cons_zero, List.set_cons_succ])
  refine opsL_take (o := ⟨some 180, .move (.tmp 179), 4, "outright.go:139", #[⟨34, .data⟩, ⟨33, .chain⟩], none⟩) (v := ?_) rfl (by rfl) ?_ ?_
  rotate_left
  · (skip; go_simp <;> with_reducible rfl)
  (try simp only [Act.put, List.setIfInBounds_toArray, List.set_cons_zero, List.set_cons_succ])
  refine opsL_take (o := ⟨some 181, .fieldAddr 37 (.tmp 6) 0, 0, "outright.go:139", #[⟨35, .guard⟩], some (35, true)⟩) (v := ?_) rfl (by rfl) ?_ ?_
  rotate_left
  · (skip; go_simp <;> with_reducible rfl)
  (try simp only [Act.put, List.setIfInBounds_toArray, List.set_cons_zero, List.set_cons_succ])
  refine opsL_take (o := ⟨some 182, .load 3 (.tmp 181), 3, "outright.go:139", #[⟨36, .data⟩, ⟨35, .guard⟩], some (35, true)⟩) (v := ?_) rfl (by rfl) ?_ ?_
  rotate_left
  · ((have c0 := HP.out.1.fd.at_ 0 (.int .i64 x.p) rfl; have c1 := HP.out.1.fd.at_ 1 (.int .i64 x.t) rfl; have c2 := HP.out.1.fd.at_ 2 (.int .i64 x.r) rfl; have a0 := HP.out.2.at_ 0 (.int .i64 T.p1) rfl; have a1 := HP.out.2.at_ 1 (.int .i64 T.p2) rfl; have a2 := HP.out.2.at_ 2 (.int .i64 T.t1) rfl; have a3 := HP.out.2.at_ 3 (.int .i64 T.t2) rfl; have a4 := HP.out.2.at_ 4 (.int .i64 T.r1) rfl; have a5 := HP.out.2.at_ 5 (.int .i64 T.r2) rfl); go_simp <;> with_reducible rfl)
  (try simp only [Act.put, List.setIfInBounds_toArray, List.set_cons_zero, List.set_cons_succ])
  refine opsL_take (o := ⟨some 183, .move (.tmp 7), 22, "outright.go:139", #[⟨35, .guard⟩], some (35, true)⟩) (v := ?_) rfl (by rfl) ?_ ?_
  rotate_left
  · (skip; go_simp <;> with_reducible rfl)
  (try simp only [Act.put, List.setIfInBounds_toArray, List.set_cons_zero, List.set_cons_succ])
  refine opsL_step (o := ⟨some 184, .call { callee := .value (.func 13), args := #[.tmp 182, .tmp 183], argTypes := #[3, 22] }, 3, "outright.go:139", #[⟨37, .data⟩, ⟨38, .data⟩, ⟨35, .chain⟩, ⟨35, .guard⟩], some (35, true)⟩) rfl (fun K hK => ?_)
  go_simp
  go_at_call 13
  refine (far_any x.p (by omega) sa sn sc shl _ HN.out (by have := HN.out; have := HI.out.len; have := HCL.out; omega) HL.out (HP.out.1.sh.is)).mono ?_
  rintro e w2 ⟨rfl, hb2⟩
  have HQ := hidMk (show LS w3 b g6 x sa shl w2 ∧ Bk w2 g13 28 (tonC T) from ⟨HP.out.1.next hb2, HP.out.2.below hb2 HP.out.2.lt⟩)
  clear HP hb2
  have HP := HQ
  clear HQ
  go_wp2_with fail
  refine hK.out _ _ ?_
  clear hK K
  (try simp only [Act.put, List.setIfInBounds_toArray, List.set_cons_zero, List.set_cons_succ])
  refine opsL_take (o := ⟨some 185, .move (.tmp 14), 3, "outright.go:139", #[⟨35, .guard⟩], some (35, true)⟩) (v := ?_) rfl (by rfl) ?_ ?_
  rotate_left
  · (skip; go_simp <;> with_reducible rfl)
  (try simp only [Act.put, List.setIfInBounds_toArray, List.set_cons_zero, List.set_cons_succ])
  refine opsL_take (o := ⟨some 186, .binOp .leq 3 (.tmp 184) (.tmp 185) 3, 4, "outright.go:139", #[⟨39, .data⟩, ⟨40, .data⟩, ⟨35, .guard⟩], some (35, true)⟩) (v := ?_) rfl (by rfl) ?_ ?_
  rotate_left
  · (skip; go_simp <;> with_reducible rfl)
  (try simp only [Act.put, List.setIfInBounds_toArray, List.set_cons_zero, List.set_cons_succ])
  refine opsL_take (o := ⟨some 187, .pick (.tmp 180) (.tmp 186) (.const (.bool false)), 4, "outright.go:139", #[⟨35, .data⟩, ⟨41, .data⟩], none⟩) (v := ?_) rfl (by rfl) ?_ ?_
  rotate_left
  · (skip; go_simp <;> with_reducible rfl)
  (try simp only [Act.put, List.setIfInBounds_toArray, List.set_cons_zero, List.set_cons_succ])
  refine opsL_take (o := ⟨some 188, .move (.tmp 187), 4, "outright.go:139", #[⟨42, .data⟩, ⟨39, .chain⟩], none⟩) (v := ?_) rfl (by rfl) ?_ ?_
  rotate_left
  · (skip; go_simp <;> with_reducible rfl)
  (try simp only [Act.put, List.setIfInBounds_toArray, List.set_cons_zero, List.set_cons_succ])
  refine opsL_take (o := ⟨some 189, .move (.tmp 15), 3, "outright.go:139", #[⟨43, .guard⟩], some (43, true)⟩) (v := ?_) rfl (by rfl) ?_ ?_
  rotate_left
  · (skip; go_simp <;> with_reducible rfl)
  (try simp only [Act.put, List.setIfInBounds_toArray, List.set_cons_zero, List.set_cons_succ])
  refine opsL_take (o := ⟨some 190, .move (.tmp 20), 4, "outright.go:139", #[⟨43, .guard⟩], some (43, true)⟩) (v := ?_) rfl (by rfl) ?_ ?_
  rotate_left
  · (skip; go_simp <;> with_reducible rfl)
  (try simp only [Act.put, List.setIfInBounds_toArray, List.set_cons_zero, List.set_cons_succ])
  refine opsL_step (o := ⟨some 191, .call { callee := .value (.func 12), args := #[.tmp 189, .tmp 190], argTypes := #[3, 4] }, 4, "outright.go:139", #[⟨44, .data⟩, ⟨45, .data⟩, ⟨43, .chain⟩, ⟨43, .guard⟩], some (43, true)⟩) rfl (fun K hK => ?_)
  go_simp
  go_at_call 12
  refine (right_any sp thB _ HSP.out).mono ?_
  rintro e w2 ⟨rfl, hb2⟩
  have HQ := hidMk (show LS w3 b g6 x sa shl w2 ∧ Bk w2 g13 28 (tonC T) from ⟨HP.out.1.next hb2, HP.out.2.below hb2 HP.out.2.lt⟩)
  clear HP hb2
  have HP := HQ
  clear HQ
  go_wp2_with fail
  refine hK.out _ _ ?_
  clear hK K
  (try simp only [Act.put, List.setIfInBounds_toArray, List.set_cons_zero, List.set_cons_succ])
  refine opsL_take (o := ⟨some 192, .pick (.tmp 188) (.tmp 191) (.const (.bool false)), 4, "outright.go:139", #[⟨43, .data⟩, ⟨46, .data⟩], none⟩) (v := ?_) rfl (by rfl) ?_ ?_
  rotate_left
  · (skip; go_simp <;> with_reducible rfl)
  (try simp only [Act.put, List.setIfInBounds_toArray, List.set_cons_zero, List.set_cons_succ])
  cases isB <;> cases thB
  · refine opsL_take (o := ⟨some 193, .move (.tmp 192), 4, "outright.go:139", #[⟨47, .data⟩, ⟨46, .chain⟩], none⟩) (v := ?_) rfl (by rfl) ?_ ?_
    rotate_left
    · (skip; go_simp <;> with_reducible rfl)
    (try simp only [Act.put, List.setIfInBounds_toArray, List.set_cons_zero, List.set_cons_succ])
    refine opsL_take (o := ⟨some 194, .move (.tmp 17), 3, "outright.go:139", #[⟨48, .guard⟩], some (48, true)⟩) (v := ?_) rfl (by rfl) ?_ ?_
    rotate_left
    · (skip; go_simp <;> with_reducible rfl)
    (try simp only [Act.put, List.setIfInBounds_toArray, List.set_cons_zero, List.set_cons_succ])
    refine opsL_take (o := ⟨some 195, .move (.tmp 19), 4, "outright.go:139", #[⟨48, .guard⟩], some (48, true)⟩) (v := ?_) rfl (by rfl) ?_ ?_
    rotate_left
    · (skip; go_simp <;> with_reducible rfl)
    (try simp only [Act.put, List.setIfInBounds_toArray, List.set_cons_zero, List.set_cons_succ])
    refine opsL_take (o := ⟨some 196, .move (.tmp 195), 4, "outright.go:139", #[⟨50, .data⟩, ⟨48, .chain⟩, ⟨48, .guard⟩], some (48, true)⟩) (v := ?_) rfl (by rfl) ?_ ?_
    rotate_left
    · (skip; go_simp <;> with_reducible rfl)
    (try simp only [Act.put, List.setIfInBounds_toArray, List.set_cons_zero, List.set_cons_succ])
    refine opsL_skip (o := ⟨some 197, .move (.tmp 20), 4, "outright.go:139", #[⟨51, .guard⟩], some (51, true)⟩) rfl (by rfl) ?_
    (try simp only [Act.put, List.setIfInBounds_toArray, List.set_cons_zero, List.set_cons_succ])
    refine opsL_skip (o := ⟨some 198, .unOp .not 4 (.tmp 197), 4, "outright.go:139", #[⟨52, .data⟩, ⟨51, .guard⟩], some (51, true)⟩) rfl (by rfl) ?_
    (try simp only [Act.put, List.setIfInBounds_toArray, List.set_cons_zero, List.set_cons_succ])
    refine opsL_take (o := ⟨some 199, .pick (.tmp 196) (.tmp 198) (.const (.bool false)), 4, "outright.go:139", #[⟨51, .data⟩, ⟨53, .data⟩, ⟨48, .guard⟩], some (48, true)⟩) (v := ?_) rfl (by rfl) ?_ ?_
    rotate_left
    · (skip; go_simp <;> with_reducible rfl)
    (try simp only [Act.put, List.setIfInBounds_toArray, List.set_cons_zero, List.set_cons_succ])
    refine opsL_step (o := ⟨some 200, .call { callee := .value (.func 12), args := #[.tmp 194, .tmp 199], argTypes := #[3, 4] }, 4, "outright.go:139", #[⟨49, .data⟩, ⟨54, .data⟩, ⟨51, .chain⟩, ⟨48, .guard⟩], some (48, true)⟩) rfl (fun K hK => ?_)
    go_simp
    go_at_call 12
    refine (right_any fi false _ HFI.out).mono ?_
    rintro e w2 ⟨rfl, hb2⟩
    have HQ := hidMk (show LS w3 b g6 x sa shl w2 ∧ Bk w2 g13 28 (tonC T) from ⟨HP.out.1.next hb2, HP.out.2.below hb2 HP.out.2.lt⟩)
    clear HP hb2
    have HP := HQ
    clear HQ
    go_wp2_with fail
    refine hK.out _ _ ?_
    clear hK K
    (try simp only [Act.put, List.setIfInBounds_toArray, List.set_cons_zero, List.set_cons_succ])
    refine opsL_take (o := ⟨some 201, .pick (.tmp 193) (.tmp 200) (.const (.bool false)), 4, "outright.go:139", #[⟨48, .data⟩, ⟨55, .data⟩], none⟩) (v := ?_) rfl (by rfl) ?_ ?_
    rotate_left
    · (skip; go_simp <;> with_reducible rfl)
    (try simp only [Act.put, List.setIfInBounds_toArray, List.set_cons_zero, List.set_cons_succ])
    refine opsL_take (o := ⟨some 202, .move (.tmp 201), 4, "outright.go:139", #[⟨56, .data⟩, ⟨55, .chain⟩], none⟩) (v := ?_) rfl (by rfl) ?_ ?_
    rotate_left
    · (skip; go_simp <;> with_reducible rfl)
    (try simp only [Act.put, List.setIfInBounds_toArray, List.set_cons_zero, List.set_cons_succ])
    refine opsL_step (o := ⟨some 203, .call { callee := .value (.func 21), args := #[], argTypes := #[] }, 4, "outright.go:139", #[⟨57, .chain⟩, ⟨57, .guard⟩], some (57, true)⟩) rfl (fun K hK => ?_)
    go_simp
    go_at_call 21
    refine (HTU.out _).mono ?_
    rintro e w2 ⟨rfl, hb2⟩
    have HQ := hidMk (show LS w3 b g6 x sa shl w2 ∧ Bk w2 g13 28 (tonC T) from ⟨HP.out.1.next hb2, HP.out.2.below hb2 HP.out.2.lt⟩)
    clear HP hb2
    have HP := HQ
    clear HQ
    go_wp2_with fail
    refine hK.out _ _ ?_
    clear hK K
    (try simp only [Act.put, List.setIfInBounds_toArray, List.set_cons_zero, List.set_cons_succ])
    refine opsL_take (o := ⟨some 204, .pick (.tmp 202) (.tmp 203) (.const (.bool false)), 4, "outright.go:139", #[⟨57, .data⟩, ⟨58, .data⟩], none⟩) (v := ?_) rfl (by rfl) ?_ ?_
    rotate_left
    · (skip; go_simp <;> with_reducible rfl)
    (try simp only [Act.put, List.setIfInBounds_toArray, List.set_cons_zero, List.set_cons_succ])
    refine opsL_take (o := ⟨some 2, .assign (.tmp 204), 4, "outright.go:139", #[⟨59, .data⟩, ⟨58, .chain⟩, ⟨0, .phase⟩, ⟨1, .phase⟩, ⟨2, .phase⟩, ⟨3, .phase⟩, ⟨4, .phase⟩, ⟨5, .phase⟩, ⟨6, .phase⟩, ⟨7, .phase⟩, ⟨8, .phase⟩, ⟨9, .phase⟩, ⟨10, .phase⟩, ⟨11, .phase⟩, ⟨12, .phase⟩, ⟨13, .phase⟩, ⟨14, .phase⟩, ⟨15, .phase⟩, ⟨16, .phase⟩, ⟨17, .phase⟩, ⟨18, .phase⟩, ⟨19, .phase⟩, ⟨20, .phase⟩, ⟨21, .phase⟩, ⟨22, .phase⟩, ⟨23, .phase⟩, ⟨24, .phase⟩, ⟨25, .phase⟩, ⟨26, .phase⟩, ⟨27, .phase⟩, ⟨28, .phase⟩, ⟨29, .phase⟩, ⟨30, .phase⟩, ⟨31, .phase⟩, ⟨32, .phase⟩, ⟨33, .phase⟩, ⟨34, .phase⟩, ⟨35, .phase⟩, ⟨36, .phase⟩, ⟨37, .phase⟩, ⟨38, .phase⟩, ⟨39, .phase⟩, ⟨40, .phase⟩, ⟨41, .phase⟩, ⟨42, .phase⟩, ⟨43, .phase⟩, ⟨44, .phase⟩, ⟨45, .phase⟩, ⟨46, .phase⟩, ⟨47, .phase⟩, ⟨48, .phase⟩, ⟨49, .phase⟩, ⟨50, .phase⟩, ⟨51, .phase⟩, ⟨52, .phase⟩, ⟨53, .phase⟩, ⟨54, .phase⟩, ⟨55, .phase⟩, ⟨56, .phase⟩, ⟨57, .phase⟩, ⟨58, .phase⟩, ⟨59, .phase⟩], none⟩) (v := ?_) rfl (by rfl) ?_ ?_
    rotate_left
    · (skip; go_simp <;> with_reducible rfl)
    (try simp only [Act.put, List.setIfInBounds_toArray, List.set_cons_zero, List.set_cons_succ])
    refine hK0 _ _ ?_
    refine wp_ret ?_
    go_ret
    exact ⟨rfl, HP.out.1.done H3.out⟩
  · refine opsL_take (o := ⟨some 193, .move (.tmp 192), 4, "outright.go:139", #[⟨47, .data⟩, ⟨46, .chain⟩], none⟩) (v := ?_) rfl (by rfl) ?_ ?_
    rotate_left
    · (skip; go_simp <;> with_reducible rfl)
    (try simp only [Act.put, List.setIfInBounds_toArray, List.set_cons_zero, List.set_cons_succ])
    refine opsL_take (o := ⟨some 194, .move (.tmp 17), 3, "outright.go:139", #[⟨48, .guard⟩], some (48, true)⟩) (v := ?_) rfl (by rfl) ?_ ?_
    rotate_left
    · (skip; go_simp <;> with_reducible rfl)
    (try simp only [Act.put, List.setIfInBounds_toArray, List.set_cons_zero, List.set_cons_succ])
    refine opsL_take (o := ⟨some 195, .move (.tmp 19), 4, "outright.go:139", #[⟨48, .guard⟩], some (48, true)⟩) (v := ?_) rfl (by rfl) ?_ ?_
    rotate_left
    · (skip; go_simp <;> with_reducible rfl)
    (try simp only [Act.put, List.setIfInBounds_toArray, List.set_cons_zero, List.set_cons_succ])
    refine opsL_take (o := ⟨some 196, .move (.tmp 195), 4, "outright.go:139", #[⟨50, .data⟩, ⟨48, .chain⟩, ⟨48, .guard⟩], some (48, true)⟩) (v := ?_) rfl (by rfl) ?_ ?_
    rotate_left
    · (skip; go_simp <;> with_reducible rfl)
    (try simp only [Act.put, List.setIfInBounds_toArray, List.set_cons_zero, List.set_cons_succ])
    refine opsL_skip (o := ⟨some 197, .move (.tmp 20), 4, "outright.go:139", #[⟨51, .guard⟩], some (51, true)⟩) rfl (by rfl) ?_
    (try simp only [Act.put, List.setIfInBounds_toArray, List.set_cons_zero, List.set_cons_succ])
    refine opsL_skip (o := ⟨some 198, .unOp .not 4 (.tmp 197), 4, "outright.go:139", #[⟨52, .data⟩, ⟨51, .guard⟩], some (51, true)⟩) rfl (by rfl) ?_
    (try simp only [Act.put, List.setIfInBounds_toArray, List.set_cons_zero, List.set_cons_succ])
    refine opsL_take (o := ⟨some 199, .pick (.tmp 196) (.tmp 198) (.const (.bool false)), 4, "outright.go:139", #[⟨51, .data⟩, ⟨53, .data⟩, ⟨48, .guard⟩], some (48, true)⟩) (v := ?_) rfl (by rfl) ?_ ?_
    rotate_left
    · (skip; go_simp <;> with_reducible rfl)
    (try simp only [Act.put, List.setIfInBounds_toArray, List.set_cons_zero, List.set_cons_succ])
    refine opsL_step (o := ⟨some 200, .call { callee := .value (.func 12), args := #[.tmp 194, .tmp 199], argTypes := #[3, 4] }, 4, "outright.go:139", #[⟨49, .data⟩, ⟨54, .data⟩, ⟨51, .chain⟩, ⟨48, .guard⟩], some (48, true)⟩) rfl (fun K hK => ?_)
    go_simp
    go_at_call 12
    refine (right_any fi false _ HFI.out).mono ?_
    rintro e w2 ⟨rfl, hb2⟩
    have HQ := hidMk (show LS w3 b g6 x sa shl w2 ∧ Bk w2 g13 28 (tonC T) from ⟨HP.out.1.next hb2, HP.out.2.below hb2 HP.out.2.lt⟩)
    clear HP hb2
    have HP := HQ
    clear HQ
    go_wp2_with fail
    refine hK.out _ _ ?_
    clear hK K
    (try simp only [Act.put, List.setIfInBounds_toArray, List.set_cons_zero, List.set_cons_succ])
    refine opsL_take (o := ⟨some 201, .pick (.tmp 193) (.tmp 200) (.const (.bool false)), 4, "outright.go:139", #[⟨48, .data⟩, ⟨55, .data⟩], none⟩) (v := ?_) rfl (by rfl) ?_ ?_
    rotate_left
    · (skip; go_simp <;> with_reducible rfl)
    (try simp only [Act.put, List.setIfInBounds_toArray, List.set_cons_zero, List.set_cons_succ])
    refine opsL_take (o := ⟨some 202, .move (.tmp 201), 4, "outright.go:139", #[⟨56, .data⟩, ⟨55, .chain⟩], none⟩) (v := ?_) rfl (by rfl) ?_ ?_
    rotate_left
    · (skip; go_simp <;> with_reducible rfl)
    (try simp only [Act.put, List.setIfInBounds_toArray, List.set_cons_zero, List.set_cons_succ])
    refine opsL_step (o := ⟨some 203, .call { callee := .value (.func 21), args := #[], argTypes := #[] }, 4, "outright.go:139", #[⟨57, .chain⟩, ⟨57, .guard⟩], some (57, true)⟩) rfl (fun K hK => ?_)
    go_simp
    go_at_call 21
    refine (HTU.out _).mono ?_
    rintro e w2 ⟨rfl, hb2⟩
    have HQ := hidMk (show LS w3 b g6 x sa shl w2 ∧ Bk w2 g13 28 (tonC T) from ⟨HP.out.1.next hb2, HP.out.2.below hb2 HP.out.2.lt⟩)
    clear HP hb2
    have HP := HQ
    clear HQ
    go_wp2_with fail
    refine hK.out _ _ ?_
    clear hK K
    (try simp only [Act.put, List.setIfInBounds_toArray, List.set_cons_zero, List.set_cons_succ])
    refine opsL_take (o := ⟨some 204, .pick (.tmp 202) (.tmp 203) (.const (.bool false)), 4, "outright.go:139", #[⟨57, .data⟩, ⟨58, .data⟩], none⟩) (v := ?_) rfl (by rfl) ?_ ?_
    rotate_left
    · (skip; go_simp <;> with_reducible rfl)
    (try simp only [Act.put, List.setIfInBounds_toArray, List.set_cons_zero, List.set_cons_succ])
    refine opsL_take (o := ⟨some 2, .assign (.tmp 204), 4, "outright.go:139", #[⟨59, .data⟩, ⟨58, .chain⟩, ⟨0, .phase⟩, ⟨1, .phase⟩, ⟨2, .phase⟩, ⟨3, .phase⟩, ⟨4, .phase⟩, ⟨5, .phase⟩, ⟨6, .phase⟩, ⟨7, .phase⟩, ⟨8, .phase⟩, ⟨9, .phase⟩, ⟨10, .phase⟩, ⟨11, .phase⟩, ⟨12, .phase⟩, ⟨13, .phase⟩, ⟨14, .phase⟩, ⟨15, .phase⟩, ⟨16, .phase⟩, ⟨17, .phase⟩, ⟨18, .phase⟩, ⟨19, .phase⟩, ⟨20, .phase⟩, ⟨21, .phase⟩, ⟨22, .phase⟩, ⟨23, .phase⟩, ⟨24, .phase⟩, ⟨25, .phase⟩, ⟨26, .phase⟩, ⟨27, .phase⟩, ⟨28, .phase⟩, ⟨29, .phase⟩, ⟨30, .phase⟩, ⟨31, .phase⟩, ⟨32, .phase⟩, ⟨33, .phase⟩, ⟨34, .phase⟩, ⟨35, .phase⟩, ⟨36, .phase⟩, ⟨37, .phase⟩, ⟨38, .phase⟩, ⟨39, .phase⟩, ⟨40, .phase⟩, ⟨41, .phase⟩, ⟨42, .phase⟩, ⟨43, .phase⟩, ⟨44, .phase⟩, ⟨45, .phase⟩, ⟨46, .phase⟩, ⟨47, .phase⟩, ⟨48, .phase⟩, ⟨49, .phase⟩, ⟨50, .phase⟩, ⟨51, .phase⟩, ⟨52, .phase⟩, ⟨53, .phase⟩, ⟨54, .phase⟩, ⟨55, .phase⟩, ⟨56, .phase⟩, ⟨57, .phase⟩, ⟨58, .phase⟩, ⟨59, .phase⟩], none⟩) (v := ?_) rfl (by rfl) ?_ ?_
    rotate_left
    · (skip; go_simp <;> with_reducible rfl)
    (try simp only [Act.put, List.setIfInBounds_toArray, List.set_cons_zero, List.set_cons_succ])
    refine hK0 _ _ ?_
    refine wp_ret ?_
    go_ret
    exact ⟨rfl, HP.out.1.done H3.out⟩
  · refine opsL_take (o := ⟨some 193, .move (.tmp 192), 4, "outright.go:139", #[⟨47, .data⟩, ⟨46, .chain⟩], none⟩) (v := ?_) rfl (by rfl) ?_ ?_
    rotate_left
    · (skip; go_simp <;> with_reducible rfl)
    (try simp only [Act.put, List.setIfInBounds_toArray, List.set_cons_zero, List.set_cons_succ])
    refine opsL_take (o := ⟨some 194, .move (.tmp 17), 3, "outright.go:139", #[⟨48, .guard⟩], some (48, true)⟩) (v := ?_) rfl (by rfl) ?_ ?_
    rotate_left
    · (skip; go_simp <;> with_reducible rfl)
    (try simp only [Act.put, List.setIfInBounds_toArray, List.set_cons_zero, List.set_cons_succ])
    refine opsL_take (o := ⟨some 195, .move (.tmp 19), 4, "outright.go:139", #[⟨48, .guard⟩], some (48, true)⟩) (v := ?_) rfl (by rfl) ?_ ?_
    rotate_left
    · (skip; go_simp <;> with_reducible rfl)
    (try simp only [Act.put, List.setIfInBounds_toArray, List.set_cons_zero, List.set_cons_succ])
    refine opsL_take (o := ⟨some 196, .move (.tmp 195), 4, "outright.go:139", #[⟨50, .data⟩, ⟨48, .chain⟩, ⟨48, .guard⟩], some (48, true)⟩) (v := ?_) rfl (by rfl) ?_ ?_
    rotate_left
    · (skip; go_simp <;> with_reducible rfl)
    (try simp only [Act.put, List.setIfInBounds_toArray, List.set_cons_zero, List.set_cons_succ])
    refine opsL_take (o := ⟨some 197, .move (.tmp 20), 4, "outright.go:139", #[⟨51, .guard⟩], some (51, true)⟩) (v := ?_) rfl (by rfl) ?_ ?_
    rotate_left
    · (skip; go_simp <;> with_reducible rfl)
    (try simp only [Act.put, List.setIfInBounds_toArray, List.set_cons_zero, List.set_cons_succ])
    refine opsL_take (o := ⟨some 198, .unOp .not 4 (.tmp 197), 4, "outright.go:139", #[⟨52, .data⟩, ⟨51, .guard⟩], some (51, true)⟩) (v := ?_) rfl (by rfl) ?_ ?_
    rotate_left
    · (skip; go_simp <;> with_reducible rfl)
    (try simp only [Act.put, List.setIfInBounds_toArray, List.set_cons_zero, List.set_cons_succ])
    refine opsL_take (o := ⟨some 199, .pick (.tmp 196) (.tmp 198) (.const (.bool false)), 4, "outright.go:139", #[⟨51, .data⟩, ⟨53, .data⟩, ⟨48, .guard⟩], some (48, true)⟩) (v := ?_) rfl (by rfl) ?_ ?_
    rotate_left
    · (skip; go_simp <;> with_reducible rfl)
    (try simp only [Act.put, List.setIfInBounds_toArray, List.set_cons_zero, List.set_cons_succ])
    refine opsL_step (o := ⟨some 200, .call { callee := .value (.func 12), args := #[.tmp 194, .tmp 199], argTypes := #[3, 4] }, 4, "outright.go:139", #[⟨49, .data⟩, ⟨54, .data⟩, ⟨51, .chain⟩, ⟨48, .guard⟩], some (48, true)⟩) rfl (fun K hK => ?_)
    go_simp
    go_at_call 12
    refine (right_any fi true _ HFI.out).mono ?_
    rintro e w2 ⟨rfl, hb2⟩
    have HQ := hidMk (show LS w3 b g6 x sa shl w2 ∧ Bk w2 g13 28 (tonC T) from ⟨HP.out.1.next hb2, HP.out.2.below hb2 HP.out.2.lt⟩)
    clear HP hb2
    have HP := HQ
    clear HQ
    go_wp2_with fail
    refine hK.out _ _ ?_
    clear hK K
    (try simp only [Act.put, List.setIfInBounds_toArray, List.set_cons_zero, List.set_cons_succ])
    refine opsL_take (o := ⟨some 201, .pick (.tmp 193) (.tmp 200) (.const (.bool false)), 4, "outright.go:139", #[⟨48, .data⟩, ⟨55, .data⟩], none⟩) (v := ?_) rfl (by rfl) ?_ ?_
    rotate_left
    · (skip; go_simp <;> with_reducible rfl)
    (try simp only [Act.put, List.setIfInBounds_toArray, List.set_cons_zero, List.set_cons_succ])
    refine opsL_take (o := ⟨some 202, .move (.tmp 201), 4, "outright.go:139", #[⟨56, .data⟩, ⟨55, .chain⟩], none⟩) (v := ?_) rfl (by rfl) ?_ ?_
    rotate_left
    · (skip; go_simp <;> with_reducible rfl)
    (try simp only [Act.put, List.setIfInBounds_toArray, List.set_cons_zero, List.set_cons_succ])
    refine opsL_step (o := ⟨some 203, .call { callee := .value (.func 21), args := #[], argTypes := #[] }, 4, "outright.go:139", #[⟨57, .chain⟩, ⟨57, .guard⟩], some (57, true)⟩) rfl (fun K hK => ?_)
    go_simp
    go_at_call 21
    refine (HTU.out _).mono ?_
    rintro e w2 ⟨rfl, hb2⟩
    have HQ := hidMk (show LS w3 b g6 x sa shl w2 ∧ Bk w2 g13 28 (tonC T) from ⟨HP.out.1.next hb2, HP.out.2.below hb2 HP.out.2.lt⟩)
    clear HP hb2
    have HP := HQ
    clear HQ
    go_wp2_with fail
    refine hK.out _ _ ?_
    clear hK K
    (try simp only [Act.put, List.setIfInBounds_toArray, List.set_cons_zero, List.set_cons_succ])
    refine opsL_take (o := ⟨some 204, .pick (.tmp 202) (.tmp 203) (.const (.bool false)), 4, "outright.go:139", #[⟨57, .data⟩, ⟨58, .data⟩], none⟩) (v := ?_) rfl (by rfl) ?_ ?_
    rotate_left
    · (skip; go_simp <;> with_reducible rfl)
    (try simp only [Act.put, List.setIfInBounds_toArray, List.set_cons_zero, List.set_cons_succ])
    refine opsL_take (o := ⟨some 2, .assign (.tmp 204), 4, "outright.go:139", #[⟨59, .data⟩, ⟨58, .chain⟩, ⟨0, .phase⟩, ⟨1, .phase⟩, ⟨2, .phase⟩, ⟨3, .phase⟩, ⟨4, .phase⟩, ⟨5, .phase⟩, ⟨6, .phase⟩, ⟨7, .phase⟩, ⟨8, .phase⟩, ⟨9, .phase⟩, ⟨10, .phase⟩, ⟨11, .phase⟩, ⟨12, .phase⟩, ⟨13, .phase⟩, ⟨14, .phase⟩, ⟨15, .phase⟩, ⟨16, .phase⟩, ⟨17, .phase⟩, ⟨18, .phase⟩, ⟨19, .phase⟩, ⟨20, .phase⟩, ⟨21, .phase⟩, ⟨22, .phase⟩, ⟨23, .phase⟩, ⟨24, .phase⟩, ⟨25, .phase⟩, ⟨26, .phase⟩, ⟨27, .phase⟩, ⟨28, .phase⟩, ⟨29, .phase⟩, ⟨30, .phase⟩, ⟨31, .phase⟩, ⟨32, .phase⟩, ⟨33, .phase⟩, ⟨34, .phase⟩, ⟨35, .phase⟩, ⟨36, .phase⟩, ⟨37, .phase⟩, ⟨38, .phase⟩, ⟨39, .phase⟩, ⟨40, .phase⟩, ⟨41, .phase⟩, ⟨42, .phase⟩, ⟨43, .phase⟩, ⟨44, .phase⟩, ⟨45, .phase⟩, ⟨46, .phase⟩, ⟨47, .phase⟩, ⟨48, .phase⟩, ⟨49, .phase⟩, ⟨50, .phase⟩, ⟨51, .phase⟩, ⟨52, .phase⟩, ⟨53, .phase⟩, ⟨54, .phase⟩, ⟨55, .phase⟩, ⟨56, .phase⟩, ⟨57, .phase⟩, ⟨58, .phase⟩, ⟨59, .phase⟩], none⟩) (v := ?_) rfl (by rfl) ?_ ?_
    rotate_left
    · (skip; go_simp <;> with_reducible rfl)
    (try simp only [Act.put, List.setIfInBounds_toArray, List.set_cons_zero, List.set_cons_succ])
    refine hK0 _ _ ?_
    refine wp_ret ?_
    go_ret
    exact ⟨rfl, HP.out.1.done H3.out⟩
  · refine opsL_take (o := ⟨some 193, .move (.tmp 192), 4, "outright.go:139", #[⟨47, .data⟩, ⟨46, .chain⟩], none⟩) (v := ?_) rfl (by rfl) ?_ ?_
    rotate_left
    · (skip; go_simp <;> with_reducible rfl)
    (try simp only [Act.put, List.setIfInBounds_toArray, List.set_cons_zero, List.set_cons_succ])
    refine opsL_take (o := ⟨some 194, .move (.tmp 17), 3, "outright.go:139", #[⟨48, .guard⟩], some (48, true)⟩) (v := ?_) rfl (by rfl) ?_ ?_
    rotate_left
    · (skip; go_simp <;> with_reducible rfl)
    (try simp only [Act.put, List.setIfInBounds_toArray, List.set_cons_zero, List.set_cons_succ])
    refine opsL_take (o := ⟨some 195, .move (.tmp 19), 4, "outright.go:139", #[⟨48, .guard⟩], some (48, true)⟩) (v := ?_) rfl (by rfl) ?_ ?_
    rotate_left
    · (skip; go_simp <;> with_reducible rfl)
    (try simp only [Act.put, List.setIfInBounds_toArray, List.set_cons_zero, List.set_cons_succ])
    refine opsL_take (o := ⟨some 196, .move (.tmp 195), 4, "outright.go:139", #[⟨50, .data⟩, ⟨48, .chain⟩, ⟨48, .guard⟩], some (48, true)⟩) (v := ?_) rfl (by rfl) ?_ ?_
    rotate_left
    · (skip; go_simp <;> with_reducible rfl)
    (try simp only [Act.put, List.setIfInBounds_toArray, List.set_cons_zero, List.set_cons_succ])
    refine opsL_take (o := ⟨some 197, .move (.tmp 20), 4, "outright.go:139", #[⟨51, .guard⟩], some (51, true)⟩) (v := ?_) rfl (by rfl) ?_ ?_
    rotate_left
    · (skip; go_simp <;> with_reducible rfl)
    (try simp only [Act.put, List.setIfInBounds_toArray, List.set_cons_zero, List.set_cons_succ])
    refine opsL_take (o := ⟨some 198, .unOp .not 4 (.tmp 197), 4, "outright.go:139", #[⟨52, .data⟩, ⟨51, .guard⟩], some (51, true)⟩) (v := ?_) rfl (by rfl) ?_ ?_
    rotate_left
    · (skip; go_simp <;> with_reducible rfl)
    (try simp only [Act.put, List.setIfInBounds_toArray, List.set_cons_zero, List.set_cons_succ])
    refine opsL_take (o := ⟨some 199, .pick (.tmp 196) (.tmp 198) (.const (.bool false)), 4, "outright.go:139", #[⟨51, .data⟩, ⟨53, .data⟩, ⟨48, .guard⟩], some (48, true)⟩) (v := ?_) rfl (by rfl) ?_ ?_
    rotate_left
    · (skip; go_simp <;> with_reducible rfl)
    (try simp only [Act.put, List.setIfInBounds_toArray, List.set_cons_zero, List.set_cons_succ])
    refine opsL_step (o := ⟨some 200, .call { callee := .value (.func 12), args := #[.tmp 194, .tmp 199], argTypes := #[3, 4] }, 4, "outright.go:139", #[⟨49, .data⟩, ⟨54, .data⟩, ⟨51, .chain⟩, ⟨48, .guard⟩], some (48, true)⟩) rfl (fun K hK => ?_)
    go_simp
    go_at_call 12
    refine (right_any fi false _ HFI.out).mono ?_
    rintro e w2 ⟨rfl, hb2⟩
    have HQ := hidMk (show LS w3 b g6 x sa shl w2 ∧ Bk w2 g13 28 (tonC T) from ⟨HP.out.1.next hb2, HP.out.2.below hb2 HP.out.2.lt⟩)
    clear HP hb2
    have HP := HQ
    clear HQ
    go_wp2_with fail
    refine hK.out _ _ ?_
    clear hK K
    (try simp only [Act.put, List.setIfInBounds_toArray, List.set_cons_zero, List.set_cons_succ])
    refine opsL_take (o := ⟨some 201, .pick (.tmp 193) (.tmp 200) (.const (.bool false)), 4, "outright.go:139", #[⟨48, .data⟩, ⟨55, .data⟩], none⟩) (v := ?_) rfl (by rfl) ?_ ?_
    rotate_left
    · (skip; go_simp <;> with_reducible rfl)
    (try simp only [Act.put, List.setIfInBounds_toArray, List.set_cons_zero, List.set_cons_succ])
    refine opsL_take (o := ⟨some 202, .move (.tmp 201), 4, "outright.go:139", #[⟨56, .data⟩, ⟨55, .chain⟩], none⟩) (v := ?_) rfl (by rfl) ?_ ?_
    rotate_left
    · (skip; go_simp <;> with_reducible rfl)
    (try simp only [Act.put, List.setIfInBounds_toArray, List.set_cons_zero, List.set_cons_succ])
    refine opsL_step (o := ⟨some 203, .call { callee := .value (.func 21), args := #[], argTypes := #[] }, 4, "outright.go:139", #[⟨57, .chain⟩, ⟨57, .guard⟩], some (57, true)⟩) rfl (fun K hK => ?_)
    go_simp
    go_at_call 21
    refine (HTU.out _).mono ?_
    rintro e w2 ⟨rfl, hb2⟩
    have HQ := hidMk (show LS w3 b g6 x sa shl w2 ∧ Bk w2 g13 28 (tonC T) from ⟨HP.out.1.next hb2, HP.out.2.below hb2 HP.out.2.lt⟩)
    clear HP hb2
    have HP := HQ
    clear HQ
    go_wp2_with fail
    refine hK.out _ _ ?_
    clear hK K
    (try simp only [Act.put, List.setIfInBounds_toArray, List.set_cons_zero, List.set_cons_succ])
    refine opsL_take (o := ⟨some 204, .pick (.tmp 202) (.tmp 203) (.const (.bool false)), 4, "outright.go:139", #[⟨57, .data⟩, ⟨58, .data⟩], none⟩) (v := ?_) rfl (by rfl) ?_ ?_
    rotate_left
    · (skip; go_simp <;> with_reducible rfl)
    (try simp only [Act.put, List.setIfInBounds_toArray, List.set_cons_zero, List.set_cons_succ])
    refine opsL_take (o := ⟨some 2, .assign (.tmp 204), 4, "outright.go:139", #[⟨59, .data⟩, ⟨58, .chain⟩, ⟨0, .phase⟩, ⟨1, .phase⟩, ⟨2, .phase⟩, ⟨3, .phase⟩, ⟨4, .phase⟩, ⟨5, .phase⟩, ⟨6, .phase⟩, ⟨7, .phase⟩, ⟨8, .phase⟩, ⟨9, .phase⟩, ⟨10, .phase⟩, ⟨11, .phase⟩, ⟨12, .phase⟩, ⟨13, .phase⟩, ⟨14, .phase⟩, ⟨15, .phase⟩, ⟨16, .phase⟩, ⟨17, .phase⟩, ⟨18, .phase⟩, ⟨19, .phase⟩, ⟨20, .phase⟩, ⟨21, .phase⟩, ⟨22, .phase⟩, ⟨23, .phase⟩, ⟨24, .phase⟩, ⟨25, .phase⟩, ⟨26, .phase⟩, ⟨27, .phase⟩, ⟨28, .phase⟩, ⟨29, .phase⟩, ⟨30, .phase⟩, ⟨31, .phase⟩, ⟨32, .phase⟩, ⟨33, .phase⟩, ⟨34, .phase⟩, ⟨35, .phase⟩, ⟨36, .phase⟩, ⟨37, .phase⟩, ⟨38, .phase⟩, ⟨39, .phase⟩, ⟨40, .phase⟩, ⟨41, .phase⟩, ⟨42, .phase⟩, ⟨43, .phase⟩, ⟨44, .phase⟩, ⟨45, .phase⟩, ⟨46, .phase⟩, ⟨47, .phase⟩, ⟨48, .phase⟩, ⟨49, .phase⟩, ⟨50, .phase⟩, ⟨51, .phase⟩, ⟨52, .phase⟩, ⟨53, .phase⟩, ⟨54, .phase⟩, ⟨55, .phase⟩, ⟨56, .phase⟩, ⟨57, .phase⟩, ⟨58, .phase⟩, ⟨59, .phase⟩], none⟩) (v := ?_) rfl (by rfl) ?_ ?_
    rotate_left
    · (skip; go_simp <;> with_reducible rfl)
    (try simp only [Act.put, List.setIfInBounds_toArray, List.set_cons_zero, List.set_cons_succ])
    refine hK0 _ _ ?_
    refine wp_ret ?_
    go_ret
    exact ⟨rfl, HP.out.1.done H3.out⟩
end Go.Proofs.Ytggokdmlijipjaa
