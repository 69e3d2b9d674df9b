/- Part 23 of the proof: TrueP9, TrueP7. -/
import Derived.Test.YtggokdmlijipjaaT22
/- The law ReedTrue: the loop of strokes. -/
namespace Go.Proofs.Ytggokdmlijipjaa
set_option linter.all false
open Go.RowKit
theorem LS.stAt {w0 w3 : World} {b g4 : Nat} {J : Jb} {ja : Option Addr} {jn jc : Nat} {ln : Nat} {l : List Int} {g6 : Nat} {x : Fd} {sa : Option Addr} {shl : List Int} {w : World} {q off k : Nat} {n : Int} (h : LS w3 b g6 x sa shl w) (h3 : L3 w0 w3 b g4 J ja jn jc (some ⟨q, off, none⟩) ln l) (hk : l[k]? = some n) : w.cell? ⟨q, off + k, none⟩ = some (.int .i64 n) := by
  obtain ⟨q', off', e, _, hc⟩ := h.st h3 k n hk
  cases e
  exact hc
theorem LS.store {w0 w3 : World} {b g4 : Nat} {J : Jb} {ja : Option Addr} {jn jc : Nat} {la : Option Addr} {ln : Nat} {l : List Int} {g6 : Nat} {x : Fd} {sa : Option Addr} {shl : List Int} {w : World} (h : LS w3 b g6 x sa shl w) (h3 : L3 w0 w3 b g4 J ja jn jc la ln l) (y : Fd) : LS w3 b g6 y sa shl (((w.setCell ⟨g6, 0, none⟩ (.int .i64 y.p)).setCell ⟨g6, 1, none⟩ (.int .i64 y.t)).setCell ⟨g6, 2, none⟩ (.int .i64 y.r)) :=
  ⟨((h.fr.setCell (p := ⟨g6, 0, none⟩) h.g6 _).setCell (p := ⟨g6, 1, none⟩) h.g6 _).setCell (p := ⟨g6, 2, none⟩) h.g6 _,
   ((h.pt.other (p := ⟨g6, 0, none⟩) (h.neb h3).symm _).other (p := ⟨g6, 1, none⟩) (h.neb h3).symm _).other (p := ⟨g6, 2, none⟩) (h.neb h3).symm _,
   ((h.fd.put 0 _).put 1 _).put 2 _,
   ((h.sh.setG (p := ⟨g6, 0, none⟩) rfl _).setG (p := ⟨g6, 1, none⟩) rfl _).setG (p := ⟨g6, 2, none⟩) rfl _, h.g6⟩
set_option maxHeartbeats 4000000 in
set_option maxRecDepth 1000000 in
theorem part9 {w0 w3 : World} {b g4 : Nat} {J : Jb} {ja : Option Addr} {jn jc : Nat} {la : Option Addr} {ln lc : Nat} {l : List Int} {g6 : Nat} {x : Fd} {sa : Option Addr} {sn sc : Nat} {shl : List Int} {w : World} {u0 u1 u8 u9 u10 u11 u12 u13 u14 u15 u16 u17 u18 u19 u20 u21 u22 u23 u24 u25 u26 u27 u28 u29 u30 u31 u32 u33 u34 u35 u36 u37 u38 u39 u40 u41 u42 u43 u44 u45 u46 u47 u48 u49 u50 u51 u52 u53 u54 u55 u56 u57 u58 u59 u60 u61 u62 u63 u64 u65 u66 u67 u68 u69 u70 u71 u72 u73 u74 u75 u76 u77 u78 u79 u80 u81 u82 u83 u84 u85 u86 u87 u88 u89 u90 u91 u92 u93 u94 u95 u96 u97 u98 u99 u100 u101 u102 u103 u104 u105 u106 u107 u108 u109 u110 u111 u112 u113 u114 u115 u116 u117 u118 u119 u120 u121 u122 u123 u124 u125 u126 u127 u128 u129 u130 u131 u132 u133 u134 u135 u136 u137 u138 u139 u140 u141 u142 u143 u144 u145 u146 u147 u148 u149 u150 u151 u152 u153 u154 u155 u156 u157 u158 u159 u160 u161 u162 u163 u164 u165 u166 u167 u168 u169 u170 u171 u172 u173 u174 u175 u176 u177 u178 u179 u180 u181 u182 u183 u184 u185 u186 u187 u188 u189 u190 u191 u192 u193 u194 u195 u196 u197 u198 u199 u200 u201 u202 u203 u204 : Value} (hfine : FineOK) (htun : TunOK) (h3 : L3 w0 w3 b g4 J ja jn jc la ln l) (hs : LS w3 b g6 x sa shl w) (hin : Ins shl (conds J.sh)) (hsn : sn = shl.length) (hx : J.tg.has x) : Code.wp Try.prog rest9 (QL w0) ⟨#[u0, u1, (.bool false), (.pointer (some ⟨b, 0, none⟩)), (.pointer (some ⟨g4, 0, none⟩)), (.slice la ln lc), (.pointer (some ⟨g6, 0, none⟩)), (.slice sa sn sc), u8, u9, u10, u11, u12, u13, u14, u15, u16, u17, u18, u19, u20, u21, u22, u23, u24, u25, u26, u27, u28, u29, u30, u31, u32, u33, u34, u35, u36, u37, u38, u39, u40, u41, u42, u43, u44, u45, u46, u47, u48, u49, u50, u51, u52, u53, u54, u55, u56, u57, u58, u59, u60, u61, u62, u63, u64, u65, u66, u67, u68, u69, u70, u71, u72, u73, u74, u75, u76, u77, u78, u79, u80, u81, u82, u83, u84, u85, u86, u87, u88, u89, u90, u91, u92, u93, u94, u95, u96, u97, u98, u99, u100, u101, u102, u103, u104, u105, u106, u107, u108, u109, u110, u111, u112, u113, u114, u115, u116, u117, u118, u119, u120, u121, u122, u123, u124, u125, u126, u127, u128, u129, u130, u131, u132, u133, u134, u135, u136, u137, u138, u139, u140, u141, u142, u143, u144, u145, u146, u147, u148, u149, u150, u151, u152, u153, u154, u155, u156, u157, u158, u159, u160, u161, u162, u163, u164, u165, u166, u167, u168, u169, u170, u171, u172, u173, u174, u175, u176, u177, u178, u179, u180, u181, u182, u183, u184, u185, u186, u187, u188, u189, u190, u191, u192, u193, u194, u195, u196, u197, u198, u199, u200, u201, u202, u203, u204], []⟩ w := by
  have hok := check_ok h3.ck
  have HN := hidMk hsn
  have HI := hidMk hin
  have HX := hidMk hx
  have HLN := hidMk h3.eln
  have hl6 := h3.l6
  have HL12 := hidMk h3.l12
  clear hsn hin hx
  rw [rest9_eq]
  refine wp_seq_k fun K0 hK0 => ?_
  go_wp2_with fail
  go_loopw [12] (fun i wr => ∃ (k : Nat) (x : Fd), k ≤ ln ∧ i = .int .i64 k ∧ (afterS J J.tg (l.take k)).has x ∧ LS w3 b g6 x sa shl wr) (fun i _ => ln - (intOf i).toNat)
  case atStart => exact ⟨0, x, Nat.zero_le _, rfl, HX.out, hs⟩
  case round =>
    clear hs HX x
    obtain ⟨k, x, hk, rfl, hx, hs⟩ := hrel
    have HT := hidMk hx
    have HS := hidMk hs
    clear hx hs
    by_cases hlt : k < ln
    · have hkl : k < l.length := by rw [← HLN.out]; exact hlt
      have hkk0 : l[k]? = some l[k] := List.getElem?_eq_getElem hkl
      have h12 := HL12.out _ (List.getElem_mem hkl)
      have htk := hidMk (take_snoc l k hkl)
      have HXB : Hid ((-300 ≤ x.p ∧ x.p ≤ 300) ∧ (-300 ≤ x.t ∧ x.t ≤ 300) ∧ (-300 ≤ x.r ∧ x.r ≤ 300)) := by
        have h1 := afterS_in J (hok.inn.mono (by decide)) (l.take k) J.tg 100 hok.inn.tg
        have h2 : (l.take k).length ≤ 6 := by rw [List.length_take]; omega
        exact HT.out.bnd (h1.mono (by omega))
      obtain ⟨q, off, rfl, _, _⟩ := HS.out.st h3 k _ hkk0
      generalize hg : l[k] = kk at hkk0 h12
      have Hkk : Hid (l[k] = kk) := hg
      clear hg
      rcases h12 with rfl | rfl
      · have hkk : l[k]? = some 1 := hkk0
        clear hkk0
        go_wp2_with fail
        have hs := HS.out
        refine region_via (R := fun a e a' w' => e = .normal ∧ ∃ (v92 v93 v94 v95 v96 v97 v98 v99 : Value) (y : Fd), a' = ((((((((a.put (some 92) v92).put (some 93) v93).put (some 94) v94).put (some 95) v95).put (some 96) v96).put (some 97) v97).put (some 98) v98).put (some 99) v99) ∧ (strk J (afterS J J.tg (l.take k)) 1).has y ∧ LS w3 b g6 y sa shl w') ?_ ?_
        rotate_left
        · rintro e a' w' ⟨rfl, v92, v93, v94, v95, v96, v97, v98, v99, y, rfl, hy, hs'⟩
          simp only [Act.put, List.setIfInBounds_toArray, List.set_cons_zero, List.set_cons_succ]
          have HS' := hidMk hs'
          have HY := hidMk hy
          clear hs hs' hy
          go_wp2_with fail
          go_roundw
          case rel => exact ⟨k + 1, y, by omega, by go_num, by rw [htk.out, afterS_snoc]; rw [Hkk.out]; exact HY.out, HS'.out⟩
          case measure => simp [intOf]; omega
        refine wp_region_held_drew (S := fun w' => Bk w' g4 33 (jobC J (.slice ja jn jc)) ∧ w'.cell? ⟨q, off + k, none⟩ = some (.int .i64 1)) (by kernel_rfl) ⟨(hs.draw).job h3, (hs.draw).stAt h3 hkk⟩ (fun hS0 => ?_)
        have hsd := hs.draw
        clear hs
        generalize hWd : wr.drew = wd at hS0 hsd ⊢
        clear hWd
        refine wpAnyH_take (i := 0) (oi := { dst := some 92, op := Go.Op.move (Go.Operand.tmp 3), type := 23, pos := "outright.go:132", after := #[], guard := none }) (v := ?_) rfl (by kernel_rfl) (by kernel_rfl) (by kernel_rfl) (fun _ _ _ h => nomatch h.1) (.inl ⟨by rfl, ?_⟩) (by assumption) ?_
        rotate_left
        · (intro w' hSw; (try dsimp only at hSw); skip; go_simp <;> with_reducible rfl)
        (try simp only [Act.put, List.setIfInBounds_toArray, List.set_cons_zero, List.set_cons_succ])
        refine wpAnyH_take (i := 1) (oi := { dst := some 93, op := Go.Op.load 33 (Go.Operand.tmp 4), type := 33, pos := "outright.go:132", after := #[], guard := none }) rfl (by kernel_rfl) (by kernel_rfl) (by kernel_rfl) (fun _ _ _ h => nomatch h.1) (yields_row (by rfl) 33 _ rfl g4 (jobC J (.slice ja jn jc)) rfl 33 (fun w hw => hw.1) Try.underlying33 szJob) (by assumption) ?_
        (try simp only [Act.put, List.setIfInBounds_toArray, List.set_cons_zero, List.set_cons_succ])
        refine wpAnyH_take (i := 3) (oi := { dst := some 95, op := Go.Op.move (Go.Operand.tmp 5), type := 22, pos := "outright.go:132", after := #[], guard := none }) (v := ?_) rfl (by kernel_rfl) (by kernel_rfl) (by kernel_rfl) (fun _ _ _ h => nomatch h.1) (.inl ⟨by rfl, ?_⟩) (by assumption) ?_
        rotate_left
        · (intro w' hSw; (try dsimp only at hSw); skip; go_simp <;> with_reducible rfl)
        (try simp only [Act.put, List.setIfInBounds_toArray, List.set_cons_zero, List.set_cons_succ])
        refine wpAnyH_take (i := 4) (oi := { dst := some 96, op := Go.Op.move (Go.Operand.tmp 12), type := 3, pos := "outright.go:132", after := #[], guard := none }) (v := ?_) rfl (by kernel_rfl) (by kernel_rfl) (by kernel_rfl) (fun _ _ _ h => nomatch h.1) (.inl ⟨by rfl, ?_⟩) (by assumption) ?_
        rotate_left
        · (intro w' hSw; (try dsimp only at hSw); skip; go_simp <;> with_reducible rfl)
        (try simp only [Act.put, List.setIfInBounds_toArray, List.set_cons_zero, List.set_cons_succ])
        refine wpAnyH_take (i := 5) (oi := { dst := some 97, op := Go.Op.indexAddr 22 (Go.Operand.tmp 95) (Go.Operand.tmp 96), type := 0, pos := "outright.go:132", after := #[{ on := 3, ground := Go.Ground.data }, { on := 4, ground := Go.Ground.data }], guard := none }) (v := ?_) rfl (by kernel_rfl) (by kernel_rfl) (by kernel_rfl) (fun _ _ _ h => nomatch h.1) (.inl ⟨by rfl, ?_⟩) (by assumption) ?_
        rotate_left
        · (intro w' hSw; (try dsimp only at hSw); skip; go_simp <;> with_reducible rfl)
        (try simp only [Act.put, List.setIfInBounds_toArray, List.set_cons_zero, List.set_cons_succ])
        refine wpAnyH_take (i := 6) (oi := { dst := some 98, op := Go.Op.load 3 (Go.Operand.tmp 97), type := 3, pos := "outright.go:132", after := #[{ on := 5, ground := Go.Ground.data }], guard := none }) (v := ?_) rfl (by kernel_rfl) (by kernel_rfl) (by kernel_rfl) (fun _ _ _ h => nomatch h.1) (.inl ⟨by rfl, ?_⟩) (by assumption) ?_
        rotate_left
        · (intro w' hSw; (try dsimp only at hSw); (have hq := hSw.2); go_simp <;> with_reducible rfl)
        (try simp only [Act.put, List.setIfInBounds_toArray, List.set_cons_zero, List.set_cons_succ])
        refine wpAnyH_ready (rs := [2]) (by kernel_rfl) (by simp) ?_
        refine AllReadyH.cons (o := { dst := some 94, op := Go.Op.load 37 (Go.Operand.tmp 6), type := 37, pos := "outright.go:132", after := #[], guard := none }) rfl (fun K hK => ?_) ?_
        · have c0 := hsd.fd.at_ 0 _ rfl
          have c1 := hsd.fd.at_ 1 _ rfl
          have c2 := hsd.fd.at_ 2 _ rfl
          go_simp
          clear c0 c1 c2
          refine hK.out _ _ ⟨(hsd).job h3, (hsd).stAt h3 hkk⟩ (fun hS2 => ?_)
          clear hK K
          (try simp only [Act.put, List.setIfInBounds_toArray, List.set_cons_zero, List.set_cons_succ])
          refine wpAnyH_ready (rs := [7]) (by kernel_rfl) (by simp) ?_
          refine AllReadyH.cons (o := { dst := some 99, op := Go.Op.call { callee := Go.Callee.value (Go.Operand.func 16), args := #[Go.Operand.tmp 92, Go.Operand.tmp 93, Go.Operand.tmp 94, Go.Operand.tmp 98], argTypes := #[23, 33, 37, 3] }, type := 37, pos := "outright.go:132", after := #[{ on := 0, ground := Go.Ground.data }, { on := 1, ground := Go.Ground.data }, { on := 2, ground := Go.Ground.data }, { on := 6, ground := Go.Ground.data }], guard := none }) rfl (fun K hK => ?_) ?_
          · go_simp
            go_at_call 16
            refine (strikeTip_any b J (.slice ja jn jc) (afterS J J.tg (l.take k)) x _ hsd.pt (hok.inn.mono (by decide)) hok.u hok.x HT.out HXB.out).mono ?_
            rintro e w4 ⟨y, rfl, hy, hk4, hp4⟩
            have hs4 := hsd.pot h3 hk4 hp4
            go_wp2_with fail
            refine hK.out _ _ ⟨(hs4).job h3, (hs4).stAt h3 hkk⟩ (fun hS4 => ?_)
            clear hK K
            (try simp only [Act.put, List.setIfInBounds_toArray, List.set_cons_zero, List.set_cons_succ])
            refine wpAnyH_ready (rs := [8]) (by kernel_rfl) (by simp) ?_
            refine AllReadyH.cons (o := { dst := none, op := Go.Op.store 37 (Go.Operand.tmp 6) (Go.Operand.tmp 99), type := 0, pos := "outright.go:132", after := #[{ on := 7, ground := Go.Ground.data }, { on := 7, ground := Go.Ground.chain }, { on := 0, ground := Go.Ground.phase }, { on := 1, ground := Go.Ground.phase }, { on := 2, ground := Go.Ground.phase }, { on := 3, ground := Go.Ground.phase }, { on := 4, ground := Go.Ground.phase }, { on := 5, ground := Go.Ground.phase }, { on := 6, ground := Go.Ground.phase }, { on := 7, ground := Go.Ground.phase }], guard := none }) rfl (fun K hK => ?_) ?_
            · have d0 := hs4.fd.at_ 0 _ rfl
              have d1 := hs4.fd.at_ 1 _ rfl
              have d2 := hs4.fd.at_ 2 _ rfl
              have f0 := hs4.fd.free 0
              have f1 := hs4.fd.free 1
              have f2 := hs4.fd.free 2
              have hs5 := hs4.store h3 y
              go_simp
              refine hK.out _ _ ⟨(hs5).job h3, (hs5).stAt h3 hkk⟩ (fun hS5 => ?_)
              clear hK K
              (try simp only [Act.put, List.setIfInBounds_toArray, List.set_cons_zero, List.set_cons_succ])
              refine wpAnyH_done (by kernel_rfl) ?_ _
              exact ⟨rfl, _, _, _, _, _, _, _, _, y, rfl, hy, hs5⟩
            exact AllReadyH.nil
          exact AllReadyH.nil
        exact AllReadyH.nil
      · have hkk : l[k]? = some 2 := hkk0
        clear hkk0
        go_wp2_with fail
        have hs := HS.out
        refine region_via (R := fun a e a' w' => e = .normal ∧ ∃ (v92 v93 v94 v95 v96 v97 v98 v99 : Value) (y : Fd), a' = ((((((((a.put (some 92) v92).put (some 93) v93).put (some 94) v94).put (some 95) v95).put (some 96) v96).put (some 97) v97).put (some 98) v98).put (some 99) v99) ∧ (strk J (afterS J J.tg (l.take k)) 2).has y ∧ LS w3 b g6 y sa shl w') ?_ ?_
        rotate_left
        · rintro e a' w' ⟨rfl, v92, v93, v94, v95, v96, v97, v98, v99, y, rfl, hy, hs'⟩
          simp only [Act.put, List.setIfInBounds_toArray, List.set_cons_zero, List.set_cons_succ]
          have HS' := hidMk hs'
          have HY := hidMk hy
          clear hs hs' hy
          go_wp2_with fail
          go_roundw
          case rel => exact ⟨k + 1, y, by omega, by go_num, by rw [htk.out, afterS_snoc]; rw [Hkk.out]; exact HY.out, HS'.out⟩
          case measure => simp [intOf]; omega
        refine wp_region_held_drew (S := fun w' => Bk w' g4 33 (jobC J (.slice ja jn jc)) ∧ w'.cell? ⟨q, off + k, none⟩ = some (.int .i64 2)) (by kernel_rfl) ⟨(hs.draw).job h3, (hs.draw).stAt h3 hkk⟩ (fun hS0 => ?_)
        have hsd := hs.draw
        clear hs
        generalize hWd : wr.drew = wd at hS0 hsd ⊢
        clear hWd
        refine wpAnyH_take (i := 0) (oi := { dst := some 92, op := Go.Op.move (Go.Operand.tmp 3), type := 23, pos := "outright.go:132", after := #[], guard := none }) (v := ?_) rfl (by kernel_rfl) (by kernel_rfl) (by kernel_rfl) (fun _ _ _ h => nomatch h.1) (.inl ⟨by rfl, ?_⟩) (by assumption) ?_
        rotate_left
        · (intro w' hSw; (try dsimp only at hSw); skip; go_simp <;> with_reducible rfl)
        (try simp only [Act.put, List.setIfInBounds_toArray, List.set_cons_zero, List.set_cons_succ])
        refine wpAnyH_take (i := 1) (oi := { dst := some 93, op := Go.Op.load 33 (Go.Operand.tmp 4), type := 33, pos := "outright.go:132", after := #[], guard := none }) rfl (by kernel_rfl) (by kernel_rfl) (by kernel_rfl) (fun _ _ _ h => nomatch h.1) (yields_row (by rfl) 33 _ rfl g4 (jobC J (.slice ja jn jc)) rfl 33 (fun w hw => hw.1) Try.underlying33 szJob) (by assumption) ?_
        (try simp only [Act.put, List.setIfInBounds_toArray, List.set_cons_zero, List.set_cons_succ])
        refine wpAnyH_take (i := 3) (oi := { dst := some 95, op := Go.Op.move (Go.Operand.tmp 5), type := 22, pos := "outright.go:132", after := #[], guard := none }) (v := ?_) rfl (by kernel_rfl) (by kernel_rfl) (by kernel_rfl) (fun _ _ _ h => nomatch h.1) (.inl ⟨by rfl, ?_⟩) (by assumption) ?_
        rotate_left
        · (intro w' hSw; (try dsimp only at hSw); skip; go_simp <;> with_reducible rfl)
        (try simp only [Act.put, List.setIfInBounds_toArray, List.set_cons_zero, List.set_cons_succ])
        refine wpAnyH_take (i := 4) (oi := { dst := some 96, op := Go.Op.move (Go.Operand.tmp 12), type := 3, pos := "outright.go:132", after := #[], guard := none }) (v := ?_) rfl (by kernel_rfl) (by kernel_rfl) (by kernel_rfl) (fun _ _ _ h => nomatch h.1) (.inl ⟨by rfl, ?_⟩) (by assumption) ?_
        rotate_left
        · (intro w' hSw; (try dsimp only at hSw); skip; go_simp <;> with_reducible rfl)
        (try simp only [Act.put, List.setIfInBounds_toArray, List.set_cons_zero, List.set_cons_succ])
        refine wpAnyH_take (i := 5) (oi := { dst := some 97, op := Go.Op.indexAddr 22 (Go.Operand.tmp 95) (Go.Operand.tmp 96), type := 0, pos := "outright.go:132", after := #[{ on := 3, ground := Go.Ground.data }, { on := 4, ground := Go.Ground.data }], guard := none }) (v := ?_) rfl (by kernel_rfl) (by kernel_rfl) (by kernel_rfl) (fun _ _ _ h => nomatch h.1) (.inl ⟨by rfl, ?_⟩) (by assumption) ?_
        rotate_left
        · (intro w' hSw; (try dsimp only at hSw); skip; go_simp <;> with_reducible rfl)
        (try simp only [Act.put, List.setIfInBounds_toArray, List.set_cons_zero, List.set_cons_succ])
        refine wpAnyH_take (i := 6) (oi := { dst := some 98, op := Go.Op.load 3 (Go.Operand.tmp 97), type := 3, pos := "outright.go:132", after := #[{ on := 5, ground := Go.Ground.data }], guard := none }) (v := ?_) rfl (by kernel_rfl) (by kernel_rfl) (by kernel_rfl) (fun _ _ _ h => nomatch h.1) (.inl ⟨by rfl, ?_⟩) (by assumption) ?_
        rotate_left
        · (intro w' hSw; (try dsimp only at hSw); (have hq := hSw.2); go_simp <;> with_reducible rfl)
        (try simp only [Act.put, List.setIfInBounds_toArray, List.set_cons_zero, List.set_cons_succ])
        refine wpAnyH_ready (rs := [2]) (by kernel_rfl) (by simp) ?_
        refine AllReadyH.cons (o := { dst := some 94, op := Go.Op.load 37 (Go.Operand.tmp 6), type := 37, pos := "outright.go:132", after := #[], guard := none }) rfl (fun K hK => ?_) ?_
        · have c0 := hsd.fd.at_ 0 _ rfl
          have c1 := hsd.fd.at_ 1 _ rfl
          have c2 := hsd.fd.at_ 2 _ rfl
          go_simp
          clear c0 c1 c2
          refine hK.out _ _ ⟨(hsd).job h3, (hsd).stAt h3 hkk⟩ (fun hS2 => ?_)
          clear hK K
          (try simp only [Act.put, List.setIfInBounds_toArray, List.set_cons_zero, List.set_cons_succ])
          refine wpAnyH_ready (rs := [7]) (by kernel_rfl) (by simp) ?_
          refine AllReadyH.cons (o := { dst := some 99, op := Go.Op.call { callee := Go.Callee.value (Go.Operand.func 16), args := #[Go.Operand.tmp 92, Go.Operand.tmp 93, Go.Operand.tmp 94, Go.Operand.tmp 98], argTypes := #[23, 33, 37, 3] }, type := 37, pos := "outright.go:132", after := #[{ on := 0, ground := Go.Ground.data }, { on := 1, ground := Go.Ground.data }, { on := 2, ground := Go.Ground.data }, { on := 6, ground := Go.Ground.data }], guard := none }) rfl (fun K hK => ?_) ?_
          · go_simp
            go_at_call 16
            refine (strikeRoot_any b J (.slice ja jn jc) (afterS J J.tg (l.take k)) x _ hsd.pt (hok.inn.mono (by decide)) hok.d hok.y HT.out HXB.out).mono ?_
            rintro e w4 ⟨y, rfl, hy, hk4, hp4⟩
            have hs4 := hsd.pot h3 hk4 hp4
            go_wp2_with fail
            refine hK.out _ _ ⟨(hs4).job h3, (hs4).stAt h3 hkk⟩ (fun hS4 => ?_)
            clear hK K
            (try simp only [Act.put, List.setIfInBounds_toArray, List.set_cons_zero, List.set_cons_succ])
            refine wpAnyH_ready (rs := [8]) (by kernel_rfl) (by simp) ?_
            refine AllReadyH.cons (o := { dst := none, op := Go.Op.store 37 (Go.Operand.tmp 6) (Go.Operand.tmp 99), type := 0, pos := "outright.go:132", after := #[{ on := 7, ground := Go.Ground.data }, { on := 7, ground := Go.Ground.chain }, { on := 0, ground := Go.Ground.phase }, { on := 1, ground := Go.Ground.phase }, { on := 2, ground := Go.Ground.phase }, { on := 3, ground := Go.Ground.phase }, { on := 4, ground := Go.Ground.phase }, { on := 5, ground := Go.Ground.phase }, { on := 6, ground := Go.Ground.phase }, { on := 7, ground := Go.Ground.phase }], guard := none }) rfl (fun K hK => ?_) ?_
            · have d0 := hs4.fd.at_ 0 _ rfl
              have d1 := hs4.fd.at_ 1 _ rfl
              have d2 := hs4.fd.at_ 2 _ rfl
              have f0 := hs4.fd.free 0
              have f1 := hs4.fd.free 1
              have f2 := hs4.fd.free 2
              have hs5 := hs4.store h3 y
              go_simp
              refine hK.out _ _ ⟨(hs5).job h3, (hs5).stAt h3 hkk⟩ (fun hS5 => ?_)
              clear hK K
              (try simp only [Act.put, List.setIfInBounds_toArray, List.set_cons_zero, List.set_cons_succ])
              refine wpAnyH_done (by kernel_rfl) ?_ _
              exact ⟨rfl, _, _, _, _, _, _, _, _, y, rfl, hy, hs5⟩
            exact AllReadyH.nil
          exact AllReadyH.nil
        exact AllReadyH.nil
    · obtain rfl : k = ln := by omega
      have hx := HT.out
      have hall : l.take k = l := by rw [HLN.out]; exact List.take_length
      rw [hall] at hx
      have HX := hidMk hx
      clear hx hall
      go_wp2_with fail
      exact part13 hfine htun h3 HS.out HI.out HN.out HX.out
end Go.Proofs.Ytggokdmlijipjaa
/- The law ReedTrue: region 7. -/
namespace Go.Proofs.Ytggokdmlijipjaa
set_option linter.all false
open Go.RowKit
set_option maxHeartbeats 4000000 in
set_option maxRecDepth 1000000 in
theorem part7 {w0 w3 : World} {b g4 : Nat} {J : Jb} {ja : Option Addr} {jn jc : Nat} {la : Option Addr} {ln lc : Nat} {l : List Int} {g6 : Nat} {x : Fd} {sa : Option Addr} {sn sc : Nat} {shl : List Int} {q1 q2 : Int} {g10 : Nat} {w : World} {u0 u1 u12 u13 u14 u15 u16 u17 u18 u19 u20 u21 u22 u23 u24 u25 u26 u27 u28 u29 u30 u31 u32 u33 u34 u35 u36 u37 u38 u39 u40 u41 u42 u43 u44 u45 u46 u47 u48 u49 u50 u51 u52 u53 u54 u55 u56 u57 u58 u59 u60 u61 u62 u63 u64 u65 u66 u67 u68 u69 u70 u71 u72 u73 u74 u75 u76 u77 u78 u79 u80 u81 u82 u83 u84 u85 u86 u87 u88 u89 u90 u91 u92 u93 u94 u95 u96 u97 u98 u99 u100 u101 u102 u103 u104 u105 u106 u107 u108 u109 u110 u111 u112 u113 u114 u115 u116 u117 u118 u119 u120 u121 u122 u123 u124 u125 u126 u127 u128 u129 u130 u131 u132 u133 u134 u135 u136 u137 u138 u139 u140 u141 u142 u143 u144 u145 u146 u147 u148 u149 u150 u151 u152 u153 u154 u155 u156 u157 u158 u159 u160 u161 u162 u163 u164 u165 u166 u167 u168 u169 u170 u171 u172 u173 u174 u175 u176 u177 u178 u179 u180 u181 u182 u183 u184 u185 u186 u187 u188 u189 u190 u191 u192 u193 u194 u195 u196 u197 u198 u199 u200 u201 u202 u203 u204 : Value} (hfine : FineOK) (htun : TunOK) (h3 : L3 w0 w3 b g4 J ja jn jc la ln l) (hs : LS w3 b g6 x sa shl w) (hin : Ins shl (conds J.sh)) (hsn : sn = shl.length) (hx : J.tg.has x) (hg10 : Bk w g10 26 #[.int .i64 q1, .int .i64 q2]) (hq1 : q1 ≤ x.p ∧ x.p ≤ q2) (hq2 : J.p1 ≤ q1 ∧ q2 ≤ J.p2) : Code.wp Try.prog rest7 (QL w0) ⟨#[u0, u1, (.bool false), (.pointer (some ⟨b, 0, none⟩)), (.pointer (some ⟨g4, 0, none⟩)), (.slice la ln lc), (.pointer (some ⟨g6, 0, none⟩)), (.slice sa sn sc), (.int .i64 (passI J.wi J.sh J.p1 J.p2)), (.int .i64 0), (.pointer (some ⟨g10, 0, none⟩)), (.int .i64 0), u12, u13, u14, u15, u16, u17, u18, u19, u20, u21, u22, u23, u24, u25, u26, u27, u28, u29, u30, u31, u32, u33, u34, u35, u36, u37, u38, u39, u40, u41, u42, u43, u44, u45, u46, u47, u48, u49, u50, u51, u52, u53, u54, u55, u56, u57, u58, u59, u60, u61, u62, u63, u64, u65, u66, u67, u68, u69, u70, u71, u72, u73, u74, u75, u76, u77, u78, u79, u80, u81, u82, u83, u84, u85, u86, u87, u88, u89, u90, u91, u92, u93, u94, u95, u96, u97, u98, u99, u100, u101, u102, u103, u104, u105, u106, u107, u108, u109, u110, u111, u112, u113, u114, u115, u116, u117, u118, u119, u120, u121, u122, u123, u124, u125, u126, u127, u128, u129, u130, u131, u132, u133, u134, u135, u136, u137, u138, u139, u140, u141, u142, u143, u144, u145, u146, u147, u148, u149, u150, u151, u152, u153, u154, u155, u156, u157, u158, u159, u160, u161, u162, u163, u164, u165, u166, u167, u168, u169, u170, u171, u172, u173, u174, u175, u176, u177, u178, u179, u180, u181, u182, u183, u184, u185, u186, u187, u188, u189, u190, u191, u192, u193, u194, u195, u196, u197, u198, u199, u200, u201, u202, u203, u204], []⟩ w := by
  have hok := check_ok h3.ck
  have HN := hidMk hsn
  have HI := hidMk hin
  have hxp : J.p1 ≤ x.p ∧ x.p ≤ J.p2 := hx.p
  have HX := hidMk hx
  clear hsn hin hx
  have hp1 := hok.inn.p1
  have hp2 := hok.inn.p2
  have HL : Hid (∀ s ∈ shl, -100 ≤ s ∧ s ≤ 100) := ins_bnd h3.ck HI.out
  have HCL : Hid ((conds J.sh).length ≤ 4) := conds_le4 h3.ck
  have hwi := hok.inn.wi
  obtain ⟨isB, HB⟩ : ∃ v : Bool, decide (farI x.p shl ≤ J.wi) = v := ⟨_, rfl⟩
  have HR : Hid (RightI (passI J.wi J.sh J.p1 J.p2) isB) := by
    have h := RightI.of (pass_right J.wi hwi.1 J.sh J.p1 J.p2 x.p hxp shl HI.out)
    rw [HB] at h
    exact h
  rw [rest7_eq]
  refine wp_seq_k fun K0 hK0 => ?_
  refine wp_seq_k fun K hKK => ?_
  refine region_via (R := fun a e a' w' => e = .normal ∧ ∃ (v53 v54 v55 v56 v57 v58 v59 v60 v61 v62 v63 v64 v65 v66 v67 v68 v69 v70 v71 v72 v73 v74 v75 v76 v77 v78 v79 v80 v81 v82 v83 v84 v85 : Value), a' = (((((((((((((((((((((((((((((((((a.put (some 53) v53).put (some 54) v54).put (some 55) v55).put (some 56) v56).put (some 57) v57).put (some 58) v58).put (some 59) v59).put (some 60) v60).put (some 61) v61).put (some 62) v62).put (some 63) v63).put (some 64) v64).put (some 65) v65).put (some 66) v66).put (some 67) v67).put (some 68) v68).put (some 69) v69).put (some 70) v70).put (some 71) v71).put (some 72) v72).put (some 73) v73).put (some 74) v74).put (some 75) v75).put (some 76) v76).put (some 77) v77).put (some 78) v78).put (some 79) v79).put (some 80) v80).put (some 81) v81).put (some 82) v82).put (some 83) v83).put (some 84) v84).put (some 85) v85) ∧ v85 = .bool false ∧ LS w3 b g6 x sa shl w') ?_ ?_
  rotate_left
  · rintro e a' w' ⟨rfl, v53, v54, v55, v56, v57, v58, v59, v60, v61, v62, v63, v64, v65, v66, v67, v68, v69, v70, v71, v72, v73, v74, v75, v76, v77, v78, v79, v80, v81, v82, v83, v84, v85, rfl, rfl, hs'⟩
    refine hKK _ _ ?_
    simp only [Act.put, List.setIfInBounds_toArray, List.set_cons_zero, List.set_cons_succ]
    clear hKK hs hg10 HB
    have HS' := hidMk hs'
    clear hs'
    go_wp2_with fail
    exact part9 hfine htun h3 HS'.out HI.out HN.out HX.out
  have hS' : LS w3 b g6 x sa shl w.drew ∧ Bk w.drew g10 26 #[.int .i64 q1, .int .i64 q2] := ⟨hs.draw, hg10.drew⟩
  refine wp_region_held_drew (S := fun w' => LS w3 b g6 x sa shl w' ∧ Bk w' g10 26 #[.int .i64 q1, .int .i64 q2]) (by kernel_rfl) hS' (fun hS0 => ?_)
  clear hs hg10 hS'
  generalize hWd : w.drew = wd at hS0 ⊢
  clear hWd
  refine wpAnyH_take (i := 0) (oi := { dst := some 53, op := Go.Op.move (Go.Operand.tmp 9), type := 40, pos := "outright.go:128", after := #[], guard := none }) (v := ?_) rfl (by kernel_rfl) (by kernel_rfl) (by kernel_rfl) (fun _ _ _ h => nomatch h.1) (.inl ⟨by rfl, ?_⟩) (by assumption) ?_
  rotate_left
  · (intro w' hSw; (try dsimp only at hSw); (have c0 := hSw.1.fd.at_ 0 _ rfl; have j0 := (hSw.1.job h3).at_ 0 _ rfl; have j1 := (hSw.1.job h3).at_ 1 _ rfl; have j16 := (hSw.1.job h3).at_ 16 _ rfl; have y0 := hSw.2.at_ 0 _ rfl; have y1 := hSw.2.at_ 1 _ rfl); go_simp <;> with_reducible rfl)
  (try simp only [Act.put, List.setIfInBounds_toArray, List.set_cons_zero, List.set_cons_succ])
  refine wpAnyH_take (i := 1) (oi := { dst := some 54, op := Go.Op.binOp Go.BinOp.neq 40 (Go.Operand.tmp 53) (Go.Operand.const (Go.Value.int Go.IntKind.i64 0)) 40, type := 4, pos := "outright.go:128", after := #[{ on := 0, ground := Go.Ground.data }], guard := none }) (v := ?_) rfl (by kernel_rfl) (by kernel_rfl) (by kernel_rfl) (fun _ _ _ h => nomatch h.1) (.inl ⟨by rfl, ?_⟩) (by assumption) ?_
  rotate_left
  · (intro w' hSw; (try dsimp only at hSw); (have c0 := hSw.1.fd.at_ 0 _ rfl; have j0 := (hSw.1.job h3).at_ 0 _ rfl; have j1 := (hSw.1.job h3).at_ 1 _ rfl; have j16 := (hSw.1.job h3).at_ 16 _ rfl; have y0 := hSw.2.at_ 0 _ rfl; have y1 := hSw.2.at_ 1 _ rfl); go_simp <;> with_reducible rfl)
  (try simp only [Act.put, List.setIfInBounds_toArray, List.set_cons_zero, List.set_cons_succ])
  refine wpAnyH_take (i := 2) (oi := { dst := some 55, op := Go.Op.move (Go.Operand.tmp 54), type := 4, pos := "outright.go:128", after := #[{ on := 1, ground := Go.Ground.data }], guard := none }) (v := ?_) rfl (by kernel_rfl) (by kernel_rfl) (by kernel_rfl) (fun _ _ _ h => nomatch h.1) (.inl ⟨by rfl, ?_⟩) (by assumption) ?_
  rotate_left
  · (intro w' hSw; (try dsimp only at hSw); (have c0 := hSw.1.fd.at_ 0 _ rfl; have j0 := (hSw.1.job h3).at_ 0 _ rfl; have j1 := (hSw.1.job h3).at_ 1 _ rfl; have j16 := (hSw.1.job h3).at_ 16 _ rfl; have y0 := hSw.2.at_ 0 _ rfl; have y1 := hSw.2.at_ 1 _ rfl); go_simp <;> with_reducible rfl)
  (try simp only [Act.put, List.setIfInBounds_toArray, List.set_cons_zero, List.set_cons_succ])
  refine wpAnyH_take (i := 3) (oi := { dst := some 56, op := Go.Op.move (Go.Operand.tmp 11), type := 40, pos := "outright.go:128", after := #[{ on := 2, ground := Go.Ground.guard }], guard := some (2, false) }) (v := ?_) rfl (by kernel_rfl) (by kernel_rfl) (by kernel_rfl) (fun _ _ _ h => nomatch h.1) (.inl ⟨by rfl, ?_⟩) (by assumption) ?_
  rotate_left
  · (intro w' hSw; (try dsimp only at hSw); (have c0 := hSw.1.fd.at_ 0 _ rfl; have j0 := (hSw.1.job h3).at_ 0 _ rfl; have j1 := (hSw.1.job h3).at_ 1 _ rfl; have j16 := (hSw.1.job h3).at_ 16 _ rfl; have y0 := hSw.2.at_ 0 _ rfl; have y1 := hSw.2.at_ 1 _ rfl); go_simp <;> with_reducible rfl)
  (try simp only [Act.put, List.setIfInBounds_toArray, List.set_cons_zero, List.set_cons_succ])
  refine wpAnyH_take (i := 4) (oi := { dst := some 57, op := Go.Op.binOp Go.BinOp.neq 40 (Go.Operand.tmp 56) (Go.Operand.const (Go.Value.int Go.IntKind.i64 0)) 40, type := 4, pos := "outright.go:128", after := #[{ on := 3, ground := Go.Ground.data }, { on := 2, ground := Go.Ground.guard }], guard := some (2, false) }) (v := ?_) rfl (by kernel_rfl) (by kernel_rfl) (by kernel_rfl) (fun _ _ _ h => nomatch h.1) (.inl ⟨by rfl, ?_⟩) (by assumption) ?_
  rotate_left
  · (intro w' hSw; (try dsimp only at hSw); (have c0 := hSw.1.fd.at_ 0 _ rfl; have j0 := (hSw.1.job h3).at_ 0 _ rfl; have j1 := (hSw.1.job h3).at_ 1 _ rfl; have j16 := (hSw.1.job h3).at_ 16 _ rfl; have y0 := hSw.2.at_ 0 _ rfl; have y1 := hSw.2.at_ 1 _ rfl); go_simp <;> with_reducible rfl)
  (try simp only [Act.put, List.setIfInBounds_toArray, List.set_cons_zero, List.set_cons_succ])
  refine wpAnyH_take (i := 5) (oi := { dst := some 58, op := Go.Op.pick (Go.Operand.tmp 55) (Go.Operand.const (Go.Value.bool true)) (Go.Operand.tmp 57), type := 4, pos := "outright.go:128", after := #[{ on := 2, ground := Go.Ground.data }, { on := 4, ground := Go.Ground.data }], guard := none }) (v := ?_) rfl (by kernel_rfl) (by kernel_rfl) (by kernel_rfl) (fun _ _ _ h => nomatch h.1) (.inl ⟨by rfl, ?_⟩) (by assumption) ?_
  rotate_left
  · (intro w' hSw; (try dsimp only at hSw); (have c0 := hSw.1.fd.at_ 0 _ rfl; have j0 := (hSw.1.job h3).at_ 0 _ rfl; have j1 := (hSw.1.job h3).at_ 1 _ rfl; have j16 := (hSw.1.job h3).at_ 16 _ rfl; have y0 := hSw.2.at_ 0 _ rfl; have y1 := hSw.2.at_ 1 _ rfl); go_simp <;> with_reducible rfl)
  (try simp only [Act.put, List.setIfInBounds_toArray, List.set_cons_zero, List.set_cons_succ])
  refine wpAnyH_take (i := 6) (oi := { dst := some 59, op := Go.Op.move (Go.Operand.tmp 58), type := 4, pos := "outright.go:128", after := #[{ on := 5, ground := Go.Ground.data }, { on := 2, ground := Go.Ground.chain }], guard := none }) (v := ?_) rfl (by kernel_rfl) (by kernel_rfl) (by kernel_rfl) (fun _ _ _ h => nomatch h.1) (.inl ⟨by rfl, ?_⟩) (by assumption) ?_
  rotate_left
  · (intro w' hSw; (try dsimp only at hSw); (have c0 := hSw.1.fd.at_ 0 _ rfl; have j0 := (hSw.1.job h3).at_ 0 _ rfl; have j1 := (hSw.1.job h3).at_ 1 _ rfl; have j16 := (hSw.1.job h3).at_ 16 _ rfl; have y0 := hSw.2.at_ 0 _ rfl; have y1 := hSw.2.at_ 1 _ rfl); go_simp <;> with_reducible rfl)
  (try simp only [Act.put, List.setIfInBounds_toArray, List.set_cons_zero, List.set_cons_succ])
  refine wpAnyH_take (i := 7) (oi := { dst := some 60, op := Go.Op.move (Go.Operand.tmp 8), type := 3, pos := "outright.go:128", after := #[{ on := 6, ground := Go.Ground.guard }], guard := some (6, false) }) (v := ?_) rfl (by kernel_rfl) (by kernel_rfl) (by kernel_rfl) (fun _ _ _ h => nomatch h.1) (.inl ⟨by rfl, ?_⟩) (by assumption) ?_
  rotate_left
  · (intro w' hSw; (try dsimp only at hSw); (have c0 := hSw.1.fd.at_ 0 _ rfl; have j0 := (hSw.1.job h3).at_ 0 _ rfl; have j1 := (hSw.1.job h3).at_ 1 _ rfl; have j16 := (hSw.1.job h3).at_ 16 _ rfl; have y0 := hSw.2.at_ 0 _ rfl; have y1 := hSw.2.at_ 1 _ rfl); go_simp <;> with_reducible rfl)
  (try simp only [Act.put, List.setIfInBounds_toArray, List.set_cons_zero, List.set_cons_succ])
  refine wpAnyH_take (i := 8) (oi := { dst := some 61, op := Go.Op.fieldAddr 37 (Go.Operand.tmp 6) 0, type := 0, pos := "outright.go:128", after := #[{ on := 6, ground := Go.Ground.guard }], guard := some (6, false) }) (v := ?_) rfl (by kernel_rfl) (by kernel_rfl) (by kernel_rfl) (fun _ _ _ h => nomatch h.1) (.inl ⟨by rfl, ?_⟩) (by assumption) ?_
  rotate_left
  · (intro w' hSw; (try dsimp only at hSw); (have c0 := hSw.1.fd.at_ 0 _ rfl; have j0 := (hSw.1.job h3).at_ 0 _ rfl; have j1 := (hSw.1.job h3).at_ 1 _ rfl; have j16 := (hSw.1.job h3).at_ 16 _ rfl; have y0 := hSw.2.at_ 0 _ rfl; have y1 := hSw.2.at_ 1 _ rfl); go_simp <;> with_reducible rfl)
  (try simp only [Act.put, List.setIfInBounds_toArray, List.set_cons_zero, List.set_cons_succ])
  refine wpAnyH_take (i := 9) (oi := { dst := some 62, op := Go.Op.load 3 (Go.Operand.tmp 61), type := 3, pos := "outright.go:128", after := #[{ on := 8, ground := Go.Ground.data }, { on := 6, ground := Go.Ground.guard }], guard := some (6, false) }) (v := ?_) rfl (by kernel_rfl) (by kernel_rfl) (by kernel_rfl) (fun _ _ _ h => nomatch h.1) (.inl ⟨by rfl, ?_⟩) (by assumption) ?_
  rotate_left
  · (intro w' hSw; (try dsimp only at hSw); (have c0 := hSw.1.fd.at_ 0 _ rfl; have j0 := (hSw.1.job h3).at_ 0 _ rfl; have j1 := (hSw.1.job h3).at_ 1 _ rfl; have j16 := (hSw.1.job h3).at_ 16 _ rfl; have y0 := hSw.2.at_ 0 _ rfl; have y1 := hSw.2.at_ 1 _ rfl); go_simp <;> with_reducible rfl)
  (try simp only [Act.put, List.setIfInBounds_toArray, List.set_cons_zero, List.set_cons_succ])
  refine wpAnyH_take (i := 10) (oi := { dst := some 63, op := Go.Op.move (Go.Operand.tmp 7), type := 22, pos := "outright.go:128", after := #[{ on := 6, ground := Go.Ground.guard }], guard := some (6, false) }) (v := ?_) rfl (by kernel_rfl) (by kernel_rfl) (by kernel_rfl) (fun _ _ _ h => nomatch h.1) (.inl ⟨by rfl, ?_⟩) (by assumption) ?_
  rotate_left
  · (intro w' hSw; (try dsimp only at hSw); (have c0 := hSw.1.fd.at_ 0 _ rfl; have j0 := (hSw.1.job h3).at_ 0 _ rfl; have j1 := (hSw.1.job h3).at_ 1 _ rfl; have j16 := (hSw.1.job h3).at_ 16 _ rfl; have y0 := hSw.2.at_ 0 _ rfl; have y1 := hSw.2.at_ 1 _ rfl); go_simp <;> with_reducible rfl)
  (try simp only [Act.put, List.setIfInBounds_toArray, List.set_cons_zero, List.set_cons_succ])
  refine wpAnyH_take (i := 12) (oi := { dst := some 65, op := Go.Op.fieldAddr 33 (Go.Operand.tmp 4) 3, type := 0, pos := "outright.go:128", after := #[{ on := 6, ground := Go.Ground.guard }], guard := some (6, false) }) (v := ?_) rfl (by kernel_rfl) (by kernel_rfl) (by kernel_rfl) (fun _ _ _ h => nomatch h.1) (.inl ⟨by rfl, ?_⟩) (by assumption) ?_
  rotate_left
  · (intro w' hSw; (try dsimp only at hSw); (have c0 := hSw.1.fd.at_ 0 _ rfl; have j0 := (hSw.1.job h3).at_ 0 _ rfl; have j1 := (hSw.1.job h3).at_ 1 _ rfl; have j16 := (hSw.1.job h3).at_ 16 _ rfl; have y0 := hSw.2.at_ 0 _ rfl; have y1 := hSw.2.at_ 1 _ rfl); go_simp <;> with_reducible rfl)
  (try simp only [Act.put, List.setIfInBounds_toArray, List.set_cons_zero, List.set_cons_succ])
  refine wpAnyH_take (i := 13) (oi := { dst := some 66, op := Go.Op.load 3 (Go.Operand.tmp 65), type := 3, pos := "outright.go:128", after := #[{ on := 12, ground := Go.Ground.data }, { on := 6, ground := Go.Ground.guard }], guard := some (6, false) }) (v := ?_) rfl (by kernel_rfl) (by kernel_rfl) (by kernel_rfl) (fun _ _ _ h => nomatch h.1) (.inl ⟨by rfl, ?_⟩) (by assumption) ?_
  rotate_left
  · (intro w' hSw; (try dsimp only at hSw); (have c0 := hSw.1.fd.at_ 0 _ rfl; have j0 := (hSw.1.job h3).at_ 0 _ rfl; have j1 := (hSw.1.job h3).at_ 1 _ rfl; have j16 := (hSw.1.job h3).at_ 16 _ rfl; have y0 := hSw.2.at_ 0 _ rfl; have y1 := hSw.2.at_ 1 _ rfl); go_simp <;> with_reducible rfl)
  (try simp only [Act.put, List.setIfInBounds_toArray, List.set_cons_zero, List.set_cons_succ])
  refine wpAnyH_ready (rs := [11]) (by kernel_rfl) (by simp) ?_
  refine AllReadyH.cons (o := { dst := some 64, op := Go.Op.call { callee := Go.Callee.value (Go.Operand.func 13), args := #[Go.Operand.tmp 62, Go.Operand.tmp 63], argTypes := #[3, 22] }, type := 3, pos := "outright.go:128", after := #[{ on := 9, ground := Go.Ground.data }, { on := 10, ground := Go.Ground.data }, { on := 6, ground := Go.Ground.chain }, { on := 6, ground := Go.Ground.guard }], guard := some (6, false) }) rfl (fun K hK => ?_) ?_
  · go_simp
    go_at_call 13
    refine (far_any x.p (by omega) sa sn sc shl _ HN.out (by have := HN.out; have := HI.out.len; have := HCL.out; omega) HL.out (hS0.1.sh.is)).mono ?_
    rintro e w1 ⟨rfl, hb1⟩
    go_wp2_with fail
    refine hK.out _ _ ⟨hS0.1.next hb1, hS0.2.below hb1 hS0.2.lt⟩ (fun hS1 => ?_)
    clear hK K
    (try simp only [Act.put, List.setIfInBounds_toArray, List.set_cons_zero, List.set_cons_succ])
    refine wpAnyH_take (i := 14) (oi := { dst := some 67, op := Go.Op.binOp Go.BinOp.leq 3 (Go.Operand.tmp 64) (Go.Operand.tmp 66) 3, type := 4, pos := "outright.go:128", after := #[{ on := 11, ground := Go.Ground.data }, { on := 13, ground := Go.Ground.data }, { on := 6, ground := Go.Ground.guard }], guard := some (6, false) }) (v := ?_) rfl (by kernel_rfl) (by kernel_rfl) (by kernel_rfl) (fun _ _ _ h => nomatch h.1) (.inl ⟨by rfl, ?_⟩) (by assumption) ?_
    rotate_left
    · (intro w' hSw; (try dsimp only at hSw); (have c0 := hSw.1.fd.at_ 0 _ rfl; have j0 := (hSw.1.job h3).at_ 0 _ rfl; have j1 := (hSw.1.job h3).at_ 1 _ rfl; have j16 := (hSw.1.job h3).at_ 16 _ rfl; have y0 := hSw.2.at_ 0 _ rfl; have y1 := hSw.2.at_ 1 _ rfl); go_simp <;> with_reducible rfl)
    (try simp only [Act.put, List.setIfInBounds_toArray, List.set_cons_zero, List.set_cons_succ])
    refine wpAnyH_ready (rs := [15]) (by kernel_rfl) (by simp) ?_
    refine AllReadyH.cons (o := { dst := some 68, op := Go.Op.call { callee := Go.Callee.value (Go.Operand.func 12), args := #[Go.Operand.tmp 60, Go.Operand.tmp 67], argTypes := #[3, 4] }, type := 4, pos := "outright.go:128", after := #[{ on := 7, ground := Go.Ground.data }, { on := 14, ground := Go.Ground.data }, { on := 11, ground := Go.Ground.chain }, { on := 6, ground := Go.Ground.guard }], guard := some (6, false) }) rfl (fun K hK => ?_) ?_
    · go_simp
      go_at_call 12
      refine (right_any _ isB _ HR.out).mono ?_
      rintro e w2 ⟨rfl, hb2⟩
      go_wp2_with fail
      refine hK.out _ _ ⟨hS1.1.next hb2, hS1.2.below hb2 hS1.2.lt⟩ (fun hS2 => ?_)
      clear hK K
      (try simp only [Act.put, List.setIfInBounds_toArray, List.set_cons_zero, List.set_cons_succ])
      refine wpAnyH_take (i := 16) (oi := { dst := some 69, op := Go.Op.unOp Go.UnOp.not 4 (Go.Operand.tmp 68), type := 4, pos := "outright.go:128", after := #[{ on := 15, ground := Go.Ground.data }, { on := 6, ground := Go.Ground.guard }], guard := some (6, false) }) (v := ?_) rfl (by kernel_rfl) (by kernel_rfl) (by kernel_rfl) (fun _ _ _ h => nomatch h.1) (.inl ⟨by rfl, ?_⟩) (by assumption) ?_
      rotate_left
      · (intro w' hSw; (try dsimp only at hSw); (have c0 := hSw.1.fd.at_ 0 _ rfl; have j0 := (hSw.1.job h3).at_ 0 _ rfl; have j1 := (hSw.1.job h3).at_ 1 _ rfl; have j16 := (hSw.1.job h3).at_ 16 _ rfl; have y0 := hSw.2.at_ 0 _ rfl; have y1 := hSw.2.at_ 1 _ rfl); go_simp <;> with_reducible rfl)
      (try simp only [Act.put, List.setIfInBounds_toArray, List.set_cons_zero, List.set_cons_succ])
      refine wpAnyH_take (i := 17) (oi := { dst := some 70, op := Go.Op.pick (Go.Operand.tmp 59) (Go.Operand.const (Go.Value.bool true)) (Go.Operand.tmp 69), type := 4, pos := "outright.go:128", after := #[{ on := 6, ground := Go.Ground.data }, { on := 16, ground := Go.Ground.data }], guard := none }) (v := ?_) rfl (by kernel_rfl) (by kernel_rfl) (by kernel_rfl) (fun _ _ _ h => nomatch h.1) (.inl ⟨by rfl, ?_⟩) (by assumption) ?_
      rotate_left
      · (intro w' hSw; (try dsimp only at hSw); (have c0 := hSw.1.fd.at_ 0 _ rfl; have j0 := (hSw.1.job h3).at_ 0 _ rfl; have j1 := (hSw.1.job h3).at_ 1 _ rfl; have j16 := (hSw.1.job h3).at_ 16 _ rfl; have y0 := hSw.2.at_ 0 _ rfl; have y1 := hSw.2.at_ 1 _ rfl); go_simp <;> with_reducible rfl)
      (try simp only [Act.put, List.setIfInBounds_toArray, List.set_cons_zero, List.set_cons_succ])
      refine wpAnyH_take (i := 18) (oi := { dst := some 71, op := Go.Op.move (Go.Operand.tmp 70), type := 4, pos := "outright.go:128", after := #[{ on := 17, ground := Go.Ground.data }, { on := 15, ground := Go.Ground.chain }], guard := none }) (v := ?_) rfl (by kernel_rfl) (by kernel_rfl) (by kernel_rfl) (fun _ _ _ h => nomatch h.1) (.inl ⟨by rfl, ?_⟩) (by assumption) ?_
      rotate_left
      · (intro w' hSw; (try dsimp only at hSw); (have c0 := hSw.1.fd.at_ 0 _ rfl; have j0 := (hSw.1.job h3).at_ 0 _ rfl; have j1 := (hSw.1.job h3).at_ 1 _ rfl; have j16 := (hSw.1.job h3).at_ 16 _ rfl; have y0 := hSw.2.at_ 0 _ rfl; have y1 := hSw.2.at_ 1 _ rfl); go_simp <;> with_reducible rfl)
      (try simp only [Act.put, List.setIfInBounds_toArray, List.set_cons_zero, List.set_cons_succ])
      refine wpAnyH_take (i := 19) (oi := { dst := some 72, op := Go.Op.load 26 (Go.Operand.tmp 10), type := 26, pos := "outright.go:128", after := #[{ on := 18, ground := Go.Ground.guard }], guard := some (18, false) }) (v := ?_) rfl (by kernel_rfl) (by kernel_rfl) (by kernel_rfl) (fun _ _ _ h => nomatch h.1) (.inl ⟨by rfl, ?_⟩) (by assumption) ?_
      rotate_left
      · (intro w' hSw; (try dsimp only at hSw); (have c0 := hSw.1.fd.at_ 0 _ rfl; have j0 := (hSw.1.job h3).at_ 0 _ rfl; have j1 := (hSw.1.job h3).at_ 1 _ rfl; have j16 := (hSw.1.job h3).at_ 16 _ rfl; have y0 := hSw.2.at_ 0 _ rfl; have y1 := hSw.2.at_ 1 _ rfl); go_simp <;> with_reducible rfl)
      (try simp only [Act.put, List.setIfInBounds_toArray, List.set_cons_zero, List.set_cons_succ])
      refine wpAnyH_take (i := 20) (oi := { dst := some 73, op := Go.Op.fieldAddr 37 (Go.Operand.tmp 6) 0, type := 0, pos := "outright.go:128", after := #[{ on := 18, ground := Go.Ground.guard }], guard := some (18, false) }) (v := ?_) rfl (by kernel_rfl) (by kernel_rfl) (by kernel_rfl) (fun _ _ _ h => nomatch h.1) (.inl ⟨by rfl, ?_⟩) (by assumption) ?_
      rotate_left
      · (intro w' hSw; (try dsimp only at hSw); (have c0 := hSw.1.fd.at_ 0 _ rfl; have j0 := (hSw.1.job h3).at_ 0 _ rfl; have j1 := (hSw.1.job h3).at_ 1 _ rfl; have j16 := (hSw.1.job h3).at_ 16 _ rfl; have y0 := hSw.2.at_ 0 _ rfl; have y1 := hSw.2.at_ 1 _ rfl); go_simp <;> with_reducible rfl)
      (try simp only [Act.put, List.setIfInBounds_toArray, List.set_cons_zero, List.set_cons_succ])
      refine wpAnyH_take (i := 21) (oi := { dst := some 74, op := Go.Op.load 3 (Go.Operand.tmp 73), type := 3, pos := "outright.go:128", after := #[{ on := 20, ground := Go.Ground.data }, { on := 18, ground := Go.Ground.guard }], guard := some (18, false) }) (v := ?_) rfl (by kernel_rfl) (by kernel_rfl) (by kernel_rfl) (fun _ _ _ h => nomatch h.1) (.inl ⟨by rfl, ?_⟩) (by assumption) ?_
      rotate_left
      · (intro w' hSw; (try dsimp only at hSw); (have c0 := hSw.1.fd.at_ 0 _ rfl; have j0 := (hSw.1.job h3).at_ 0 _ rfl; have j1 := (hSw.1.job h3).at_ 1 _ rfl; have j16 := (hSw.1.job h3).at_ 16 _ rfl; have y0 := hSw.2.at_ 0 _ rfl; have y1 := hSw.2.at_ 1 _ rfl); go_simp <;> with_reducible rfl)
      (try simp only [Act.put, List.setIfInBounds_toArray, List.set_cons_zero, List.set_cons_succ])
      refine wpAnyH_ready (rs := [22]) (by kernel_rfl) (by simp) ?_
      refine AllReadyH.cons (o := { dst := some 75, op := Go.Op.call { callee := Go.Callee.value (Go.Operand.func 14), args := #[Go.Operand.tmp 72, Go.Operand.tmp 74], argTypes := #[26, 3] }, type := 4, pos := "outright.go:128", after := #[{ on := 19, ground := Go.Ground.data }, { on := 21, ground := Go.Ground.data }, { on := 18, ground := Go.Ground.chain }, { on := 18, ground := Go.Ground.guard }], guard := some (18, false) }) rfl (fun K hK => ?_) ?_
      · go_simp
        go_at_call 14
        refine (in_true q1 q2 x.p _ hq1).mono ?_
        rintro e w3 ⟨rfl, hb3⟩
        go_wp2_with fail
        refine hK.out _ _ ⟨hS2.1.next hb3, hS2.2.below hb3 hS2.2.lt⟩ (fun hS3 => ?_)
        clear hK K
        (try simp only [Act.put, List.setIfInBounds_toArray, List.set_cons_zero, List.set_cons_succ])
        refine wpAnyH_take (i := 23) (oi := { dst := some 76, op := Go.Op.unOp Go.UnOp.not 4 (Go.Operand.tmp 75), type := 4, pos := "outright.go:128", after := #[{ on := 22, ground := Go.Ground.data }, { on := 18, ground := Go.Ground.guard }], guard := some (18, false) }) (v := ?_) rfl (by kernel_rfl) (by kernel_rfl) (by kernel_rfl) (fun _ _ _ h => nomatch h.1) (.inl ⟨by rfl, ?_⟩) (by assumption) ?_
        rotate_left
        · (intro w' hSw; (try dsimp only at hSw); (have c0 := hSw.1.fd.at_ 0 _ rfl; have j0 := (hSw.1.job h3).at_ 0 _ rfl; have j1 := (hSw.1.job h3).at_ 1 _ rfl; have j16 := (hSw.1.job h3).at_ 16 _ rfl; have y0 := hSw.2.at_ 0 _ rfl; have y1 := hSw.2.at_ 1 _ rfl); go_simp <;> with_reducible rfl)
        (try simp only [Act.put, List.setIfInBounds_toArray, List.set_cons_zero, List.set_cons_succ])
        refine wpAnyH_take (i := 24) (oi := { dst := some 77, op := Go.Op.pick (Go.Operand.tmp 71) (Go.Operand.const (Go.Value.bool true)) (Go.Operand.tmp 76), type := 4, pos := "outright.go:128", after := #[{ on := 18, ground := Go.Ground.data }, { on := 23, ground := Go.Ground.data }], guard := none }) (v := ?_) rfl (by kernel_rfl) (by kernel_rfl) (by kernel_rfl) (fun _ _ _ h => nomatch h.1) (.inl ⟨by rfl, ?_⟩) (by assumption) ?_
        rotate_left
        · (intro w' hSw; (try dsimp only at hSw); (have c0 := hSw.1.fd.at_ 0 _ rfl; have j0 := (hSw.1.job h3).at_ 0 _ rfl; have j1 := (hSw.1.job h3).at_ 1 _ rfl; have j16 := (hSw.1.job h3).at_ 16 _ rfl; have y0 := hSw.2.at_ 0 _ rfl; have y1 := hSw.2.at_ 1 _ rfl); go_simp <;> with_reducible rfl)
        (try simp only [Act.put, List.setIfInBounds_toArray, List.set_cons_zero, List.set_cons_succ])
        refine wpAnyH_take (i := 25) (oi := { dst := some 78, op := Go.Op.move (Go.Operand.tmp 77), type := 4, pos := "outright.go:128", after := #[{ on := 24, ground := Go.Ground.data }, { on := 22, ground := Go.Ground.chain }], guard := none }) (v := ?_) rfl (by kernel_rfl) (by kernel_rfl) (by kernel_rfl) (fun _ _ _ h => nomatch h.1) (.inl ⟨by rfl, ?_⟩) (by assumption) ?_
        rotate_left
        · (intro w' hSw; (try dsimp only at hSw); (have c0 := hSw.1.fd.at_ 0 _ rfl; have j0 := (hSw.1.job h3).at_ 0 _ rfl; have j1 := (hSw.1.job h3).at_ 1 _ rfl; have j16 := (hSw.1.job h3).at_ 16 _ rfl; have y0 := hSw.2.at_ 0 _ rfl; have y1 := hSw.2.at_ 1 _ rfl); go_simp <;> with_reducible rfl)
        (try simp only [Act.put, List.setIfInBounds_toArray, List.set_cons_zero, List.set_cons_succ])
        refine wpAnyH_take (i := 26) (oi := { dst := some 79, op := Go.Op.fieldAddr 33 (Go.Operand.tmp 4) 0, type := 0, pos := "outright.go:128", after := #[{ on := 25, ground := Go.Ground.guard }], guard := some (25, false) }) (v := ?_) rfl (by kernel_rfl) (by kernel_rfl) (by kernel_rfl) (fun _ _ _ h => nomatch h.1) (.inl ⟨by rfl, ?_⟩) (by assumption) ?_
        rotate_left
        · (intro w' hSw; (try dsimp only at hSw); (have c0 := hSw.1.fd.at_ 0 _ rfl; have j0 := (hSw.1.job h3).at_ 0 _ rfl; have j1 := (hSw.1.job h3).at_ 1 _ rfl; have j16 := (hSw.1.job h3).at_ 16 _ rfl; have y0 := hSw.2.at_ 0 _ rfl; have y1 := hSw.2.at_ 1 _ rfl); go_simp <;> with_reducible rfl)
        (try simp only [Act.put, List.setIfInBounds_toArray, List.set_cons_zero, List.set_cons_succ])
        refine wpAnyH_take (i := 27) (oi := { dst := some 80, op := Go.Op.fieldAddr 28 (Go.Operand.tmp 79) 0, type := 0, pos := "outright.go:128", after := #[{ on := 26, ground := Go.Ground.data }, { on := 25, ground := Go.Ground.guard }], guard := some (25, false) }) (v := ?_) rfl (by kernel_rfl) (by kernel_rfl) (by kernel_rfl) (fun _ _ _ h => nomatch h.1) (.inl ⟨by rfl, ?_⟩) (by assumption) ?_
        rotate_left
        · (intro w' hSw; (try dsimp only at hSw); (have c0 := hSw.1.fd.at_ 0 _ rfl; have j0 := (hSw.1.job h3).at_ 0 _ rfl; have j1 := (hSw.1.job h3).at_ 1 _ rfl; have j16 := (hSw.1.job h3).at_ 16 _ rfl; have y0 := hSw.2.at_ 0 _ rfl; have y1 := hSw.2.at_ 1 _ rfl); go_simp <;> with_reducible rfl)
        (try simp only [Act.put, List.setIfInBounds_toArray, List.set_cons_zero, List.set_cons_succ])
        refine wpAnyH_take (i := 28) (oi := { dst := some 81, op := Go.Op.load 26 (Go.Operand.tmp 80), type := 26, pos := "outright.go:128", after := #[{ on := 27, ground := Go.Ground.data }, { on := 25, ground := Go.Ground.guard }], guard := some (25, false) }) (v := ?_) rfl (by kernel_rfl) (by kernel_rfl) (by kernel_rfl) (fun _ _ _ h => nomatch h.1) (.inl ⟨by rfl, ?_⟩) (by assumption) ?_
        rotate_left
        · (intro w' hSw; (try dsimp only at hSw); (have c0 := hSw.1.fd.at_ 0 _ rfl; have j0 := (hSw.1.job h3).at_ 0 _ rfl; have j1 := (hSw.1.job h3).at_ 1 _ rfl; have j16 := (hSw.1.job h3).at_ 16 _ rfl; have y0 := hSw.2.at_ 0 _ rfl; have y1 := hSw.2.at_ 1 _ rfl); go_simp <;> with_reducible rfl)
        (try simp only [Act.put, List.setIfInBounds_toArray, List.set_cons_zero, List.set_cons_succ])
        refine wpAnyH_take (i := 29) (oi := { dst := some 82, op := Go.Op.load 26 (Go.Operand.tmp 10), type := 26, pos := "outright.go:128", after := #[{ on := 25, ground := Go.Ground.guard }], guard := some (25, false) }) (v := ?_) rfl (by kernel_rfl) (by kernel_rfl) (by kernel_rfl) (fun _ _ _ h => nomatch h.1) (.inl ⟨by rfl, ?_⟩) (by assumption) ?_
        rotate_left
        · (intro w' hSw; (try dsimp only at hSw); (have c0 := hSw.1.fd.at_ 0 _ rfl; have j0 := (hSw.1.job h3).at_ 0 _ rfl; have j1 := (hSw.1.job h3).at_ 1 _ rfl; have j16 := (hSw.1.job h3).at_ 16 _ rfl; have y0 := hSw.2.at_ 0 _ rfl; have y1 := hSw.2.at_ 1 _ rfl); go_simp <;> with_reducible rfl)
        (try simp only [Act.put, List.setIfInBounds_toArray, List.set_cons_zero, List.set_cons_succ])
        refine wpAnyH_ready (rs := [30]) (by kernel_rfl) (by simp) ?_
        refine AllReadyH.cons (o := { dst := some 83, op := Go.Op.call { callee := Go.Callee.value (Go.Operand.func 15), args := #[Go.Operand.tmp 81, Go.Operand.tmp 82], argTypes := #[26, 26] }, type := 4, pos := "outright.go:128", after := #[{ on := 28, ground := Go.Ground.data }, { on := 29, ground := Go.Ground.data }, { on := 25, ground := Go.Ground.chain }, { on := 25, ground := Go.Ground.guard }], guard := some (25, false) }) rfl (fun K hK => ?_) ?_
        · go_simp
          go_at_call 15
          refine (wider_any J.p1 J.p2 q1 q2 _ hq2.1 hq2.2).mono ?_
          rintro e w4 ⟨rfl, hb4⟩
          go_wp2_with fail
          refine hK.out _ _ ⟨hS3.1.next hb4, hS3.2.below hb4 hS3.2.lt⟩ (fun hS4 => ?_)
          clear hK K
          (try simp only [Act.put, List.setIfInBounds_toArray, List.set_cons_zero, List.set_cons_succ])
          refine wpAnyH_take (i := 31) (oi := { dst := some 84, op := Go.Op.unOp Go.UnOp.not 4 (Go.Operand.tmp 83), type := 4, pos := "outright.go:128", after := #[{ on := 30, ground := Go.Ground.data }, { on := 25, ground := Go.Ground.guard }], guard := some (25, false) }) (v := ?_) rfl (by kernel_rfl) (by kernel_rfl) (by kernel_rfl) (fun _ _ _ h => nomatch h.1) (.inl ⟨by rfl, ?_⟩) (by assumption) ?_
          rotate_left
          · (intro w' hSw; (try dsimp only at hSw); (have c0 := hSw.1.fd.at_ 0 _ rfl; have j0 := (hSw.1.job h3).at_ 0 _ rfl; have j1 := (hSw.1.job h3).at_ 1 _ rfl; have j16 := (hSw.1.job h3).at_ 16 _ rfl; have y0 := hSw.2.at_ 0 _ rfl; have y1 := hSw.2.at_ 1 _ rfl); go_simp <;> with_reducible rfl)
          (try simp only [Act.put, List.setIfInBounds_toArray, List.set_cons_zero, List.set_cons_succ])
          refine wpAnyH_take (i := 32) (oi := { dst := some 85, op := Go.Op.pick (Go.Operand.tmp 78) (Go.Operand.const (Go.Value.bool true)) (Go.Operand.tmp 84), type := 4, pos := "outright.go:128", after := #[{ on := 25, ground := Go.Ground.data }, { on := 31, ground := Go.Ground.data }], guard := none }) (v := ?_) rfl (by kernel_rfl) (by kernel_rfl) (by kernel_rfl) (fun _ _ _ h => nomatch h.1) (.inl ⟨by rfl, ?_⟩) (by assumption) ?_
          rotate_left
          · (intro w' hSw; (try dsimp only at hSw); (have c0 := hSw.1.fd.at_ 0 _ rfl; have j0 := (hSw.1.job h3).at_ 0 _ rfl; have j1 := (hSw.1.job h3).at_ 1 _ rfl; have j16 := (hSw.1.job h3).at_ 16 _ rfl; have y0 := hSw.2.at_ 0 _ rfl; have y1 := hSw.2.at_ 1 _ rfl); go_simp <;> with_reducible rfl)
          (try simp only [Act.put, List.setIfInBounds_toArray, List.set_cons_zero, List.set_cons_succ])
          refine wpAnyH_done (by kernel_rfl) ?_ _
          exact ⟨rfl, _, _, _, _, _, _, _, _, _, _, _, _, _, _, _, _, _, _, _, _, _, _, _, _, _, _, _, _, _, _, _, _, _, rfl, rfl, hS4.1⟩
        exact AllReadyH.nil
      exact AllReadyH.nil
    exact AllReadyH.nil
  exact AllReadyH.nil
end Go.Proofs.Ytggokdmlijipjaa
