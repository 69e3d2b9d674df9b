/- Part 8 of the proof: RefD, RefI. -/
import Derived.Deep.WholeRow
import Derived.Test.YtadmcafbffjjbaaB07
import Derived.Test.YtadmcafbffjjbaaB01
/- Contracts of the reference's shifts and window. -/
namespace Go.Proofs.Ytadmcafbffjjbaa
set_option linter.all false
open Go.RowKit
set_option maxHeartbeats 400000 in
theorem refShifts_any (J : Jb) (a : Option Addr) (n c : Nat) (w : World) (hn : n = J.sh.length) (hm : n ≤ 4) (h : Rg w w.heap.size a J.sh) :
    Calls Try.prog 81 #[.agg (jobC J (.slice a n c))] w (CondsEnd J w) := by
  have Hn : Hid (n = J.sh.length) := hn
  clear hn
  have Hh : Hid (Rg w w.heap.size a J.sh) := h
  clear h
  by_cases h0 : n = 0
  · subst h0
    go_enter Try.func81,Try.ntmps81
    go_wp2
    go_ret
    have e : J.sh = [] := List.length_eq_zero_iff.1 Hn.out.symm
    refine ⟨some ⟨w.heap.size + 1,0,none⟩,1,by rw [e]; rfl,?_,((Below.refl _ _).alloc (Nat.le_refl _) _).alloc (by simp) _⟩
    rw [e]
    intro k x hx
    match k,hx with
    | 0,hx =>
      obtain rfl : ((0 : Int),(0 : Int)) = x := by simpa [conds] using hx
      exact ⟨w.heap.size + 1,0,rfl,by simp,by simp [go_sem],by simp [go_sem]⟩
  · have hb : ((n : Int) == 0) = false := by rw [beq_eq_false_iff_ne]; omega
    clear h0
    go_enter Try.func81,Try.ntmps81
    go_wp2
    go_ret
    have e : conds J.sh = J.sh := by
      unfold conds
      rw [if_neg]
      intro k
      have := Hn.out
      rw [k] at this
      subst this
      simp at hb
    refine ⟨a,c,by rw [e,← Hn.out]; rfl,?_,(Below.refl _ _).alloc (Nat.le_refl _) _⟩
    rw [e]
    exact Hh.out.keep (by simp) fun p hp => World.cell?_alloc_lt w _ p hp

noncomputable def wnbody : Code := Try.f52.body.getD .skip
noncomputable def wnrest1 : Code := sndC wnbody
noncomputable def wnrest2 : Code := sndC wnrest1
noncomputable def wnrest3 : Code := sndC wnrest2
noncomputable def wnrest4 : Code := sndC wnrest3
set_option maxRecDepth 1000000 in
theorem wnbody_eq : wnbody = .seq (Code.region 0 #[⟨some 1,.box 30 (.tmp 0),0,"ref.go:68",#[],none⟩,⟨some 2,.alloc 23,0,"ref.go:68",#[],none⟩] false) wnrest1 := by kernel_rfl
set_option maxRecDepth 1000000 in
theorem wnrest1_eq : wnrest1 = .seq (Code.region 1 #[⟨some 6,.load 30 (.tmp 1),30,"ref.go:69",#[],none⟩,⟨some 7,.call { callee := .value (.func 81),args := #[.tmp 6],argTypes := #[30] },28,"ref.go:69",#[⟨0,.data⟩],none⟩,⟨some 3,.assign (.tmp 7),28,"ref.go:69",#[⟨1,.data⟩,⟨1,.chain⟩,⟨0,.phase⟩,⟨1,.phase⟩],none⟩] false) wnrest2 := by kernel_rfl
set_option maxRecDepth 1000000 in
theorem wnrest2_eq : wnrest2 = .seq (Code.region 2 #[⟨some 8,.fieldAddr 30 (.tmp 1) 3,0,"ref.go:70",#[],none⟩,⟨some 9,.load 3 (.tmp 8),3,"ref.go:70",#[⟨0,.data⟩],none⟩,⟨some 10,.unOp .neg 3 (.tmp 9),3,"ref.go:70",#[⟨1,.data⟩],none⟩,⟨some 11,.move (.tmp 3),28,"ref.go:70",#[],none⟩,⟨some 12,.indexAddr 28 (.tmp 11) (.const (.int .i64 0)),0,"ref.go:70",#[⟨3,.data⟩],none⟩,⟨some 13,.fieldAddr 23 (.tmp 12) 0,0,"ref.go:70",#[⟨4,.data⟩],none⟩,⟨some 14,.load 3 (.tmp 13),3,"ref.go:70",#[⟨5,.data⟩],none⟩,⟨some 15,.binOp .sub 3 (.tmp 10) (.tmp 14) 3,3,"ref.go:70",#[⟨2,.data⟩,⟨6,.data⟩],none⟩,⟨some 16,.fieldAddr 30 (.tmp 1) 3,0,"ref.go:70",#[],none⟩,⟨some 17,.load 3 (.tmp 16),3,"ref.go:70",#[⟨8,.data⟩],none⟩,⟨some 18,.move (.tmp 3),28,"ref.go:70",#[],none⟩,⟨some 19,.indexAddr 28 (.tmp 18) (.const (.int .i64 0)),0,"ref.go:70",#[⟨10,.data⟩],none⟩,⟨some 20,.fieldAddr 23 (.tmp 19) 1,0,"ref.go:70",#[⟨11,.data⟩],none⟩,⟨some 21,.load 3 (.tmp 20),3,"ref.go:70",#[⟨12,.data⟩],none⟩,⟨some 22,.binOp .sub 3 (.tmp 17) (.tmp 21) 3,3,"ref.go:70",#[⟨9,.data⟩,⟨13,.data⟩],none⟩,⟨some 23,.build 23 #[(0,.tmp 15),(1,.tmp 22)],23,"ref.go:70",#[⟨7,.data⟩,⟨14,.data⟩],none⟩,⟨some 4,.alloc 23,0,"ref.go:70",#[],none⟩,⟨none,.store 23 (.tmp 4) (.tmp 23),0,"ref.go:70",#[⟨16,.data⟩,⟨15,.data⟩,⟨0,.phase⟩,⟨1,.phase⟩,⟨2,.phase⟩,⟨3,.phase⟩,⟨4,.phase⟩,⟨5,.phase⟩,⟨6,.phase⟩,⟨7,.phase⟩,⟨8,.phase⟩,⟨9,.phase⟩,⟨10,.phase⟩,⟨11,.phase⟩,⟨12,.phase⟩,⟨13,.phase⟩,⟨14,.phase⟩,⟨15,.phase⟩,⟨16,.phase⟩],none⟩] true) wnrest3 := by kernel_rfl
set_option maxRecDepth 1000000 in
theorem wnrest3_eq : wnrest3 = .seq (.seq (Code.region 3 #[⟨some 5,.assign (.const (.int .i64 0)),3,"ref.go:71",#[],none⟩] false) (.block 0 (.loop (.seq (.seq (Code.region 4 #[⟨some 24,.move (.tmp 5),3,"ref.go:71",#[],none⟩,⟨some 25,.move (.tmp 3),28,"ref.go:71",#[],none⟩,⟨some 26,.call { callee := .builtin .len,args := #[.tmp 25],argTypes := #[28] },3,"ref.go:71",#[⟨1,.data⟩],none⟩,⟨some 27,.binOp .lss 3 (.tmp 24) (.tmp 26) 3,4,"ref.go:71",#[⟨0,.data⟩,⟨2,.data⟩],none⟩] false) (.cond (.tmp 27) .skip (.exit 0))) (.seq (.block 1 (Code.region 6 #[⟨some 30,.fieldAddr 23 (.tmp 4) 0,0,"ref.go:72",#[],none⟩,⟨some 31,.load 3 (.tmp 30),3,"ref.go:72",#[⟨0,.data⟩],none⟩,⟨some 32,.fieldAddr 30 (.tmp 1) 3,0,"ref.go:72",#[],none⟩,⟨some 33,.load 3 (.tmp 32),3,"ref.go:72",#[⟨2,.data⟩],none⟩,⟨some 34,.unOp .neg 3 (.tmp 33),3,"ref.go:72",#[⟨3,.data⟩],none⟩,⟨some 35,.move (.tmp 3),28,"ref.go:72",#[],none⟩,⟨some 36,.move (.tmp 5),3,"ref.go:72",#[],none⟩,⟨some 37,.indexAddr 28 (.tmp 35) (.tmp 36),0,"ref.go:72",#[⟨5,.data⟩,⟨6,.data⟩],none⟩,⟨some 38,.fieldAddr 23 (.tmp 37) 0,0,"ref.go:72",#[⟨7,.data⟩],none⟩,⟨some 39,.load 3 (.tmp 38),3,"ref.go:72",#[⟨8,.data⟩],none⟩,⟨some 40,.binOp .sub 3 (.tmp 34) (.tmp 39) 3,3,"ref.go:72",#[⟨4,.data⟩,⟨9,.data⟩],none⟩,⟨some 41,.call { callee := .builtin .max,args := #[.tmp 31,.tmp 40],argTypes := #[3,3] },3,"ref.go:72",#[⟨1,.data⟩,⟨10,.data⟩],none⟩,⟨some 42,.fieldAddr 23 (.tmp 4) 1,0,"ref.go:72",#[],none⟩,⟨some 43,.load 3 (.tmp 42),3,"ref.go:72",#[⟨12,.data⟩],none⟩,⟨some 44,.fieldAddr 30 (.tmp 1) 3,0,"ref.go:72",#[],none⟩,⟨some 45,.load 3 (.tmp 44),3,"ref.go:72",#[⟨14,.data⟩],none⟩,⟨some 46,.move (.tmp 3),28,"ref.go:72",#[],none⟩,⟨some 47,.move (.tmp 5),3,"ref.go:72",#[],none⟩,⟨some 48,.indexAddr 28 (.tmp 46) (.tmp 47),0,"ref.go:72",#[⟨16,.data⟩,⟨17,.data⟩],none⟩,⟨some 49,.fieldAddr 23 (.tmp 48) 1,0,"ref.go:72",#[⟨18,.data⟩],none⟩,⟨some 50,.load 3 (.tmp 49),3,"ref.go:72",#[⟨19,.data⟩],none⟩,⟨some 51,.binOp .sub 3 (.tmp 45) (.tmp 50) 3,3,"ref.go:72",#[⟨15,.data⟩,⟨20,.data⟩],none⟩,⟨some 52,.call { callee := .builtin .min,args := #[.tmp 43,.tmp 51],argTypes := #[3,3] },3,"ref.go:72",#[⟨13,.data⟩,⟨21,.data⟩],none⟩,⟨some 53,.build 23 #[(0,.tmp 41),(1,.tmp 52)],23,"ref.go:72",#[⟨11,.data⟩,⟨22,.data⟩],none⟩,⟨none,.store 23 (.tmp 4) (.tmp 53),0,"ref.go:72",#[⟨23,.data⟩,⟨0,.phase⟩,⟨1,.phase⟩,⟨2,.phase⟩,⟨3,.phase⟩,⟨4,.phase⟩,⟨5,.phase⟩,⟨6,.phase⟩,⟨7,.phase⟩,⟨8,.phase⟩,⟨9,.phase⟩,⟨10,.phase⟩,⟨11,.phase⟩,⟨12,.phase⟩,⟨13,.phase⟩,⟨14,.phase⟩,⟨15,.phase⟩,⟨16,.phase⟩,⟨17,.phase⟩,⟨18,.phase⟩,⟨19,.phase⟩,⟨20,.phase⟩,⟨21,.phase⟩,⟨22,.phase⟩,⟨23,.phase⟩],none⟩] true)) (Code.region 5 #[⟨some 28,.move (.tmp 5),3,"ref.go:71",#[],none⟩,⟨some 29,.binOp .add 3 (.tmp 28) (.const (.int .i64 1)) 3,3,"ref.go:71",#[⟨0,.data⟩],none⟩,⟨some 5,.assign (.tmp 29),3,"ref.go:71",#[⟨1,.data⟩,⟨0,.phase⟩,⟨1,.phase⟩],none⟩] false)))))) wnrest4 := by kernel_rfl
set_option maxRecDepth 1000000 in
theorem wnrest4_eq : wnrest4 = .seq (Code.region 7 #[⟨some 54,.load 23 (.tmp 4),23,"ref.go:74",#[],none⟩,⟨none,.store 23 (.tmp 2) (.tmp 54),0,"ref.go:74",#[⟨0,.data⟩,⟨0,.phase⟩],none⟩] false) .ret := by kernel_rfl

theorem meet2_self (r : R2) : meet2 r r = r := by
  unfold meet2
  simp
/-- The window as the reference reckons it: from the first shift on, and all of them again. -/
theorem win_from (wi : Int) (sh : List R2) (c : R2) (h : (conds sh)[0]? = some c) : meetL (sureOf wi c) ((conds sh).map (sureOf wi)) = win wi sh := by
  unfold win
  cases hc : conds sh with
  | nil => rw [hc] at h; cases h
  | cons s l =>
    rw [hc] at h
    obtain rfl : s = c := by simpa using h
    show meetL (meet2 (sureOf wi s) (sureOf wi s)) (l.map (sureOf wi)) = meetL (sureOf wi s) (l.map (sureOf wi))
    rw [meet2_self]
theorem conds_0 (sh : List R2) : ∃ c,(conds sh)[0]? = some c := by
  unfold conds
  split
  · exact ⟨_,rfl⟩
  · cases sh with
    | nil => rename_i h; exact absurd rfl h
    | cons s l => exact ⟨s,rfl⟩
/-- What the reference's window is held to. -/
def QW (V : R2) (w0 : World) : Exit → Act → World → Prop := bodyPost Try.prog Try.f52 fun e w' => e = .returned (.agg #[.int .i64 V.1,.int .i64 V.2]) ∧ Below w0.heap.size w0 w'
structure WS (w0 w1 : World) (g1 g2 : Nat) (J : Jb) (a : Option Addr) (n c : Nat) : Prop where
  job : Bk w1 g1 30 (jobC J (.slice a n c))
  res : Bk w1 g2 23 #[.int .i64 0,.int .i64 0]
  b0 : Below w0.heap.size w0 w1
  g2 : w0.heap.size ≤ g2
  inn : J.In 200
set_option maxHeartbeats 4000000 in
set_option maxRecDepth 1000000 in
theorem wnpart4 {w0 w1 : World} {g1 g2 : Nat} {J : Jb} {a : Option Addr} {n c : Nat} {V : R2} {q off m d : Nat} {g4 : Nat} {r : R2} {w : World} {u0 u5 u6 u7 u8 u9 u10 u11 u12 u13 u14 u15 u16 u17 u18 u19 u20 u21 u22 u23 u24 u25 u26 u27 u28 u29 u30 u31 u32 u33 u34 u35 u36 u37 u38 u39 u40 u41 u42 u43 u44 u45 u46 u47 u48 u49 u50 u51 u52 u53 u54 : Value} (h1 : WS w0 w1 g1 g2 J a n c) (hc : Rg w1 w1.heap.size (some ⟨q,off,none⟩) (conds J.sh)) (hm : m = (conds J.sh).length) (hB : Below w1.heap.size w1 w) (hV : V = win J.wi J.sh) (hx : Bk w g4 23 #[.int .i64 r.1,.int .i64 r.2]) (hg4 : w1.heap.size ≤ g4) (hr : r = win J.wi J.sh) : Code.wp Try.prog wnrest4 (QW V w0) ⟨#[u0,(.pointer (some ⟨g1,0,none⟩)),(.pointer (some ⟨g2,0,none⟩)),(.slice (some ⟨q,off,none⟩) m d),(.pointer (some ⟨g4,0,none⟩)),u5,u6,u7,u8,u9,u10,u11,u12,u13,u14,u15,u16,u17,u18,u19,u20,u21,u22,u23,u24,u25,u26,u27,u28,u29,u30,u31,u32,u33,u34,u35,u36,u37,u38,u39,u40,u41,u42,u43,u44,u45,u46,u47,u48,u49,u50,u51,u52,u53,u54],[]⟩ w := by
  rw [wnrest4_eq]
  have x0 := hx.at_ 0 _ rfl
  have x1 := hx.at_ 1 _ rfl
  have hr2 := h1.res.below hB h1.res.lt
  have d0 := hr2.at_ 0 _ rfl
  have d1 := hr2.at_ 1 _ rfl
  have f0 := hr2.free 0
  have f1 := hr2.free 1
  have hR := hr2.put2 (.int .i64 r.1) (.int .i64 r.2)
  have HV : Hid (V = r) := hV.trans hr.symm
  have HB := hidMk ((h1.b0.trans (hB.mono h1.b0.size)))
  have hg2 := h1.g2
  clear hV hr
  unfold QW
  go_wp2_with fail
  refine bodyPost_ret (v := .agg #[.int .i64 r.1,.int .i64 r.2]) (results_cell_row Try.results52 _ _ _ _ _ _ _ rfl hR Try.underlying23 rfl szRange) rfl ⟨by rw [HV.out],?_⟩
  exact (HB.out.setCell (p := ⟨g2,0,none⟩) hg2 _).setCell (p := ⟨g2,1,none⟩) hg2 _
set_option maxHeartbeats 4000000 in
set_option maxRecDepth 1000000 in
theorem wnpart3 {w0 w1 : World} {g1 g2 : Nat} {J : Jb} {a : Option Addr} {n c : Nat} {V : R2} {q off m d : Nat} {g4 : Nat} {r : R2} {w : World} {u0 u5 u6 u7 u8 u9 u10 u11 u12 u13 u14 u15 u16 u17 u18 u19 u20 u21 u22 u23 u24 u25 u26 u27 u28 u29 u30 u31 u32 u33 u34 u35 u36 u37 u38 u39 u40 u41 u42 u43 u44 u45 u46 u47 u48 u49 u50 u51 u52 u53 u54 : Value} (h1 : WS w0 w1 g1 g2 J a n c) (hc : Rg w1 w1.heap.size (some ⟨q,off,none⟩) (conds J.sh)) (hm : m = (conds J.sh).length) (hB : Below w1.heap.size w1 w) (hV : V = win J.wi J.sh) (hx : Bk w g4 23 #[.int .i64 r.1,.int .i64 r.2]) (hg4 : w1.heap.size ≤ g4) {c0 : R2} (hc0 : (conds J.sh)[0]? = some c0) (hr : r = sureOf J.wi c0) : Code.wp Try.prog wnrest3 (QW V w0) ⟨#[u0,(.pointer (some ⟨g1,0,none⟩)),(.pointer (some ⟨g2,0,none⟩)),(.slice (some ⟨q,off,none⟩) m d),(.pointer (some ⟨g4,0,none⟩)),u5,u6,u7,u8,u9,u10,u11,u12,u13,u14,u15,u16,u17,u18,u19,u20,u21,u22,u23,u24,u25,u26,u27,u28,u29,u30,u31,u32,u33,u34,u35,u36,u37,u38,u39,u40,u41,u42,u43,u44,u45,u46,u47,u48,u49,u50,u51,u52,u53,u54],[]⟩ w := by
  rw [wnrest3_eq]
  have hwi := h1.inn.wi
  have hm4 : m ≤ 4 := by have := conds_len J.sh; have := h1.inn.len; omega
  obtain ⟨hwi1,hwi2⟩ := hwi
  have HV := hidMk hV
  have HM := hidMk hm
  clear hV hm
  have HC0 := hidMk hc0
  have HR := hidMk hr
  clear hc0 hr
  refine wp_seq_k fun K0 hK0 => ?_
  go_wp2_with fail
  go_loopw [5] (fun i wr => ∃ (k : Nat) (r : R2),k ≤ m ∧ i = .int .i64 k ∧ Hid (r = meetL (sureOf J.wi c0) (((conds J.sh).take k).map (sureOf J.wi))) ∧ Bk wr g4 23 #[.int .i64 r.1,.int .i64 r.2] ∧ Below w1.heap.size w1 wr) (fun i _ => m - (intOf i).toNat)
  case atStart => exact ⟨0,r,Nat.zero_le _,rfl,HR.out,hx,hB⟩
  case round =>
    clear hx hB HR r
    obtain ⟨k,r,hk,rfl,Hr,hx,hB⟩ := hrel
    by_cases hlt : k < m
    · have hkl : k < (conds J.sh).length := by rw [← HM.out]; exact hlt
      have hsb := conds_in J.sh h1.inn.sh _ (List.getElem_mem hkl)
      obtain ⟨q',off',e',hbl,e0,e1⟩ := hc k (conds J.sh)[k] (List.getElem?_eq_getElem hkl)
      cases e'
      have htk := hidMk (take_snoc (conds J.sh) k hkl)
      obtain ⟨s,Hs⟩ : ∃ s,Hid (s = (conds J.sh)[k]) := ⟨_,hidMk rfl⟩
      rw [← Hs.out] at e0 e1 hsb
      obtain ⟨sb1,sb2,sb3,sb4⟩ := hsb
      have ew1 : IntKind.i64.wrap (-J.wi) = -J.wi := IntWalk.i64_in _ (by omega)
      have ew2 : IntKind.i64.wrap (-J.wi - s.1) = -J.wi - s.1 := IntWalk.i64_in _ (by omega)
      have ew3 : IntKind.i64.wrap (J.wi - s.2) = J.wi - s.2 := IntWalk.i64_in _ (by omega)
      go_wp2_with fail
      refine region_via (R := fun a e a' w' => e = .normal ∧ ∃ (v30 v31 v32 v33 v34 v35 v36 v37 v38 v39 v40 v41 v42 v43 v44 v45 v46 v47 v48 v49 v50 v51 v52 v53 : Value),a' = ((((((((((((((((((((((((a.put (some 30) v30).put (some 31) v31).put (some 32) v32).put (some 33) v33).put (some 34) v34).put (some 35) v35).put (some 36) v36).put (some 37) v37).put (some 38) v38).put (some 39) v39).put (some 40) v40).put (some 41) v41).put (some 42) v42).put (some 43) v43).put (some 44) v44).put (some 45) v45).put (some 46) v46).put (some 47) v47).put (some 48) v48).put (some 49) v49).put (some 50) v50).put (some 51) v51).put (some 52) v52).put (some 53) v53) ∧ Bk w' g4 23 #[.int .i64 (if r.1 < -J.wi - s.1 then -J.wi - s.1 else r.1),.int .i64 (if J.wi - s.2 < r.2 then J.wi - s.2 else r.2)] ∧ Below w1.heap.size w1 w') ?_ ?_
      rotate_left
      · rintro e a' w' ⟨rfl,v30,v31,v32,v33,v34,v35,v36,v37,v38,v39,v40,v41,v42,v43,v44,v45,v46,v47,v48,v49,v50,v51,v52,v53,rfl,hx',hB'⟩
        simp only [Act.put,aT,aZ,aS]
        have HX' := hidMk hx'
        have HB' := hidMk hB'
        clear hx hB hx' hB' e0 e1
        go_wp2_with fail
        go_roundw
        case rel => exact ⟨k + 1,((if r.1 < -J.wi - s.1 then -J.wi - s.1 else r.1),(if J.wi - s.2 < r.2 then J.wi - s.2 else r.2)),by omega,by go_num,by show _ = _; rw [htk.out,List.map_append,List.map_cons,List.map_nil,meetL_snoc,← Hr.out]; rw [← Hs.out]; rfl,HX'.out,HB'.out⟩
        case measure => simp [intOf]; omega
      refine wp_region_held_drew (S := fun w' => Below w1.heap.size w1 w') (by kernel_rfl) hB.drew (fun hS0 => ?_)
      replace hx := hx.drew
      replace hB := hB.drew
      generalize hWd : wr.drew = wd at hS0 hx hB ⊢
      clear hWd
      refine wpAnyH_take (i := 0) (oi := ⟨some 30,.fieldAddr 23 (.tmp 4) 0,0,"ref.go:72",#[],none⟩) (v := ?_) rfl (by kernel_rfl) (by kernel_rfl) (by kernel_rfl) (fun _ _ _ h => by cases h.1) (.inl ⟨by rfl,?_⟩) (by assumption) ?_
      rotate_left
      · (intro w' hSw; (try dsimp only at hSw); (have j16 := (h1.job.below hSw h1.job.lt).at_ 16 (.int .i64 J.wi) rfl; have s0 := (hSw.cell (p := ⟨q,off + k * 2,none⟩) hbl).trans e0; have s1 := (hSw.cell (p := ⟨q,off + k * 2 + 1,none⟩) hbl).trans e1); go_simp <;> with_reducible rfl)
      (try simp only [Act.put,aT,aZ,aS])
      refine wpAnyH_take (i := 2) (oi := ⟨some 32,.fieldAddr 30 (.tmp 1) 3,0,"ref.go:72",#[],none⟩) (v := ?_) rfl (by kernel_rfl) (by kernel_rfl) (by kernel_rfl) (fun _ _ _ h => by cases h.1) (.inl ⟨by rfl,?_⟩) (by assumption) ?_
      rotate_left
      · (intro w' hSw; (try dsimp only at hSw); (have j16 := (h1.job.below hSw h1.job.lt).at_ 16 (.int .i64 J.wi) rfl; have s0 := (hSw.cell (p := ⟨q,off + k * 2,none⟩) hbl).trans e0; have s1 := (hSw.cell (p := ⟨q,off + k * 2 + 1,none⟩) hbl).trans e1); go_simp <;> with_reducible rfl)
      (try simp only [Act.put,aT,aZ,aS])
      refine wpAnyH_take (i := 3) (oi := ⟨some 33,.load 3 (.tmp 32),3,"ref.go:72",#[⟨2,.data⟩],none⟩) (v := ?_) rfl (by kernel_rfl) (by kernel_rfl) (by kernel_rfl) (fun _ _ _ h => by cases h.1) (.inl ⟨by rfl,?_⟩) (by assumption) ?_
      rotate_left
      · (intro w' hSw; (try dsimp only at hSw); (have j16 := (h1.job.below hSw h1.job.lt).at_ 16 (.int .i64 J.wi) rfl; have s0 := (hSw.cell (p := ⟨q,off + k * 2,none⟩) hbl).trans e0; have s1 := (hSw.cell (p := ⟨q,off + k * 2 + 1,none⟩) hbl).trans e1); go_simp <;> with_reducible rfl)
      (try simp only [Act.put,aT,aZ,aS])
      refine wpAnyH_take (i := 4) (oi := ⟨some 34,.unOp .neg 3 (.tmp 33),3,"ref.go:72",#[⟨3,.data⟩],none⟩) (v := ?_) rfl (by kernel_rfl) (by kernel_rfl) (by kernel_rfl) (fun _ _ _ h => by cases h.1) (.inl ⟨by rfl,?_⟩) (by assumption) ?_
      rotate_left
      · (intro w' hSw; (try dsimp only at hSw); (have j16 := (h1.job.below hSw h1.job.lt).at_ 16 (.int .i64 J.wi) rfl; have s0 := (hSw.cell (p := ⟨q,off + k * 2,none⟩) hbl).trans e0; have s1 := (hSw.cell (p := ⟨q,off + k * 2 + 1,none⟩) hbl).trans e1); go_simp <;> with_reducible rfl)
      (try simp only [Act.put,aT,aZ,aS])
      refine wpAnyH_take (i := 5) (oi := ⟨some 35,.move (.tmp 3),28,"ref.go:72",#[],none⟩) (v := ?_) rfl (by kernel_rfl) (by kernel_rfl) (by kernel_rfl) (fun _ _ _ h => by cases h.1) (.inl ⟨by rfl,?_⟩) (by assumption) ?_
      rotate_left
      · (intro w' hSw; (try dsimp only at hSw); (have j16 := (h1.job.below hSw h1.job.lt).at_ 16 (.int .i64 J.wi) rfl; have s0 := (hSw.cell (p := ⟨q,off + k * 2,none⟩) hbl).trans e0; have s1 := (hSw.cell (p := ⟨q,off + k * 2 + 1,none⟩) hbl).trans e1); go_simp <;> with_reducible rfl)
      (try simp only [Act.put,aT,aZ,aS])
      refine wpAnyH_take (i := 6) (oi := ⟨some 36,.move (.tmp 5),3,"ref.go:72",#[],none⟩) (v := ?_) rfl (by kernel_rfl) (by kernel_rfl) (by kernel_rfl) (fun _ _ _ h => by cases h.1) (.inl ⟨by rfl,?_⟩) (by assumption) ?_
      rotate_left
      · (intro w' hSw; (try dsimp only at hSw); (have j16 := (h1.job.below hSw h1.job.lt).at_ 16 (.int .i64 J.wi) rfl; have s0 := (hSw.cell (p := ⟨q,off + k * 2,none⟩) hbl).trans e0; have s1 := (hSw.cell (p := ⟨q,off + k * 2 + 1,none⟩) hbl).trans e1); go_simp <;> with_reducible rfl)
      (try simp only [Act.put,aT,aZ,aS])
      refine wpAnyH_take (i := 7) (oi := ⟨some 37,.indexAddr 28 (.tmp 35) (.tmp 36),0,"ref.go:72",#[⟨5,.data⟩,⟨6,.data⟩],none⟩) (v := ?_) rfl (by kernel_rfl) (by kernel_rfl) (by kernel_rfl) (fun _ _ _ h => by cases h.1) (.inl ⟨by rfl,?_⟩) (by assumption) ?_
      rotate_left
      · (intro w' hSw; (try dsimp only at hSw); (have j16 := (h1.job.below hSw h1.job.lt).at_ 16 (.int .i64 J.wi) rfl; have s0 := (hSw.cell (p := ⟨q,off + k * 2,none⟩) hbl).trans e0; have s1 := (hSw.cell (p := ⟨q,off + k * 2 + 1,none⟩) hbl).trans e1); go_simp <;> with_reducible rfl)
      (try simp only [Act.put,aT,aZ,aS])
      refine wpAnyH_take (i := 8) (oi := ⟨some 38,.fieldAddr 23 (.tmp 37) 0,0,"ref.go:72",#[⟨7,.data⟩],none⟩) (v := ?_) rfl (by kernel_rfl) (by kernel_rfl) (by kernel_rfl) (fun _ _ _ h => by cases h.1) (.inl ⟨by rfl,?_⟩) (by assumption) ?_
      rotate_left
      · (intro w' hSw; (try dsimp only at hSw); (have j16 := (h1.job.below hSw h1.job.lt).at_ 16 (.int .i64 J.wi) rfl; have s0 := (hSw.cell (p := ⟨q,off + k * 2,none⟩) hbl).trans e0; have s1 := (hSw.cell (p := ⟨q,off + k * 2 + 1,none⟩) hbl).trans e1); go_simp <;> with_reducible rfl)
      (try simp only [Act.put,aT,aZ,aS])
      refine wpAnyH_take (i := 9) (oi := ⟨some 39,.load 3 (.tmp 38),3,"ref.go:72",#[⟨8,.data⟩],none⟩) (v := ?_) rfl (by kernel_rfl) (by kernel_rfl) (by kernel_rfl) (fun _ _ _ h => by cases h.1) (.inl ⟨by rfl,?_⟩) (by assumption) ?_
      rotate_left
      · (intro w' hSw; (try dsimp only at hSw); (have j16 := (h1.job.below hSw h1.job.lt).at_ 16 (.int .i64 J.wi) rfl; have s0 := (hSw.cell (p := ⟨q,off + k * 2,none⟩) hbl).trans e0; have s1 := (hSw.cell (p := ⟨q,off + k * 2 + 1,none⟩) hbl).trans e1); go_simp <;> with_reducible rfl)
      (try simp only [Act.put,aT,aZ,aS])
      refine wpAnyH_take (i := 10) (oi := ⟨some 40,.binOp .sub 3 (.tmp 34) (.tmp 39) 3,3,"ref.go:72",#[⟨4,.data⟩,⟨9,.data⟩],none⟩) (v := ?_) rfl (by kernel_rfl) (by kernel_rfl) (by kernel_rfl) (fun _ _ _ h => by cases h.1) (.inl ⟨by rfl,?_⟩) (by assumption) ?_
      rotate_left
      · (intro w' hSw; (try dsimp only at hSw); (have j16 := (h1.job.below hSw h1.job.lt).at_ 16 (.int .i64 J.wi) rfl; have s0 := (hSw.cell (p := ⟨q,off + k * 2,none⟩) hbl).trans e0; have s1 := (hSw.cell (p := ⟨q,off + k * 2 + 1,none⟩) hbl).trans e1); go_simp <;> with_reducible rfl)
      (try simp only [Act.put,aT,aZ,aS])
      refine wpAnyH_take (i := 12) (oi := ⟨some 42,.fieldAddr 23 (.tmp 4) 1,0,"ref.go:72",#[],none⟩) (v := ?_) rfl (by kernel_rfl) (by kernel_rfl) (by kernel_rfl) (fun _ _ _ h => by cases h.1) (.inl ⟨by rfl,?_⟩) (by assumption) ?_
      rotate_left
      · (intro w' hSw; (try dsimp only at hSw); (have j16 := (h1.job.below hSw h1.job.lt).at_ 16 (.int .i64 J.wi) rfl; have s0 := (hSw.cell (p := ⟨q,off + k * 2,none⟩) hbl).trans e0; have s1 := (hSw.cell (p := ⟨q,off + k * 2 + 1,none⟩) hbl).trans e1); go_simp <;> with_reducible rfl)
      (try simp only [Act.put,aT,aZ,aS])
      refine wpAnyH_take (i := 14) (oi := ⟨some 44,.fieldAddr 30 (.tmp 1) 3,0,"ref.go:72",#[],none⟩) (v := ?_) rfl (by kernel_rfl) (by kernel_rfl) (by kernel_rfl) (fun _ _ _ h => by cases h.1) (.inl ⟨by rfl,?_⟩) (by assumption) ?_
      rotate_left
      · (intro w' hSw; (try dsimp only at hSw); (have j16 := (h1.job.below hSw h1.job.lt).at_ 16 (.int .i64 J.wi) rfl; have s0 := (hSw.cell (p := ⟨q,off + k * 2,none⟩) hbl).trans e0; have s1 := (hSw.cell (p := ⟨q,off + k * 2 + 1,none⟩) hbl).trans e1); go_simp <;> with_reducible rfl)
      (try simp only [Act.put,aT,aZ,aS])
      refine wpAnyH_take (i := 15) (oi := ⟨some 45,.load 3 (.tmp 44),3,"ref.go:72",#[⟨14,.data⟩],none⟩) (v := ?_) rfl (by kernel_rfl) (by kernel_rfl) (by kernel_rfl) (fun _ _ _ h => by cases h.1) (.inl ⟨by rfl,?_⟩) (by assumption) ?_
      rotate_left
      · (intro w' hSw; (try dsimp only at hSw); (have j16 := (h1.job.below hSw h1.job.lt).at_ 16 (.int .i64 J.wi) rfl; have s0 := (hSw.cell (p := ⟨q,off + k * 2,none⟩) hbl).trans e0; have s1 := (hSw.cell (p := ⟨q,off + k * 2 + 1,none⟩) hbl).trans e1); go_simp <;> with_reducible rfl)
      (try simp only [Act.put,aT,aZ,aS])
      refine wpAnyH_take (i := 16) (oi := ⟨some 46,.move (.tmp 3),28,"ref.go:72",#[],none⟩) (v := ?_) rfl (by kernel_rfl) (by kernel_rfl) (by kernel_rfl) (fun _ _ _ h => by cases h.1) (.inl ⟨by rfl,?_⟩) (by assumption) ?_
      rotate_left
      · (intro w' hSw; (try dsimp only at hSw); (have j16 := (h1.job.below hSw h1.job.lt).at_ 16 (.int .i64 J.wi) rfl; have s0 := (hSw.cell (p := ⟨q,off + k * 2,none⟩) hbl).trans e0; have s1 := (hSw.cell (p := ⟨q,off + k * 2 + 1,none⟩) hbl).trans e1); go_simp <;> with_reducible rfl)
      (try simp only [Act.put,aT,aZ,aS])
      refine wpAnyH_take (i := 17) (oi := ⟨some 47,.move (.tmp 5),3,"ref.go:72",#[],none⟩) (v := ?_) rfl (by kernel_rfl) (by kernel_rfl) (by kernel_rfl) (fun _ _ _ h => by cases h.1) (.inl ⟨by rfl,?_⟩) (by assumption) ?_
      rotate_left
      · (intro w' hSw; (try dsimp only at hSw); (have j16 := (h1.job.below hSw h1.job.lt).at_ 16 (.int .i64 J.wi) rfl; have s0 := (hSw.cell (p := ⟨q,off + k * 2,none⟩) hbl).trans e0; have s1 := (hSw.cell (p := ⟨q,off + k * 2 + 1,none⟩) hbl).trans e1); go_simp <;> with_reducible rfl)
      (try simp only [Act.put,aT,aZ,aS])
      refine wpAnyH_take (i := 18) (oi := ⟨some 48,.indexAddr 28 (.tmp 46) (.tmp 47),0,"ref.go:72",#[⟨16,.data⟩,⟨17,.data⟩],none⟩) (v := ?_) rfl (by kernel_rfl) (by kernel_rfl) (by kernel_rfl) (fun _ _ _ h => by cases h.1) (.inl ⟨by rfl,?_⟩) (by assumption) ?_
      rotate_left
      · (intro w' hSw; (try dsimp only at hSw); (have j16 := (h1.job.below hSw h1.job.lt).at_ 16 (.int .i64 J.wi) rfl; have s0 := (hSw.cell (p := ⟨q,off + k * 2,none⟩) hbl).trans e0; have s1 := (hSw.cell (p := ⟨q,off + k * 2 + 1,none⟩) hbl).trans e1); go_simp <;> with_reducible rfl)
      (try simp only [Act.put,aT,aZ,aS])
      refine wpAnyH_take (i := 19) (oi := ⟨some 49,.fieldAddr 23 (.tmp 48) 1,0,"ref.go:72",#[⟨18,.data⟩],none⟩) (v := ?_) rfl (by kernel_rfl) (by kernel_rfl) (by kernel_rfl) (fun _ _ _ h => by cases h.1) (.inl ⟨by rfl,?_⟩) (by assumption) ?_
      rotate_left
      · (intro w' hSw; (try dsimp only at hSw); (have j16 := (h1.job.below hSw h1.job.lt).at_ 16 (.int .i64 J.wi) rfl; have s0 := (hSw.cell (p := ⟨q,off + k * 2,none⟩) hbl).trans e0; have s1 := (hSw.cell (p := ⟨q,off + k * 2 + 1,none⟩) hbl).trans e1); go_simp <;> with_reducible rfl)
      (try simp only [Act.put,aT,aZ,aS])
      refine wpAnyH_take (i := 20) (oi := ⟨some 50,.load 3 (.tmp 49),3,"ref.go:72",#[⟨19,.data⟩],none⟩) (v := ?_) rfl (by kernel_rfl) (by kernel_rfl) (by kernel_rfl) (fun _ _ _ h => by cases h.1) (.inl ⟨by rfl,?_⟩) (by assumption) ?_
      rotate_left
      · (intro w' hSw; (try dsimp only at hSw); (have j16 := (h1.job.below hSw h1.job.lt).at_ 16 (.int .i64 J.wi) rfl; have s0 := (hSw.cell (p := ⟨q,off + k * 2,none⟩) hbl).trans e0; have s1 := (hSw.cell (p := ⟨q,off + k * 2 + 1,none⟩) hbl).trans e1); go_simp <;> with_reducible rfl)
      (try simp only [Act.put,aT,aZ,aS])
      refine wpAnyH_take (i := 21) (oi := ⟨some 51,.binOp .sub 3 (.tmp 45) (.tmp 50) 3,3,"ref.go:72",#[⟨15,.data⟩,⟨20,.data⟩],none⟩) (v := ?_) rfl (by kernel_rfl) (by kernel_rfl) (by kernel_rfl) (fun _ _ _ h => by cases h.1) (.inl ⟨by rfl,?_⟩) (by assumption) ?_
      rotate_left
      · (intro w' hSw; (try dsimp only at hSw); (have j16 := (h1.job.below hSw h1.job.lt).at_ 16 (.int .i64 J.wi) rfl; have s0 := (hSw.cell (p := ⟨q,off + k * 2,none⟩) hbl).trans e0; have s1 := (hSw.cell (p := ⟨q,off + k * 2 + 1,none⟩) hbl).trans e1); go_simp <;> with_reducible rfl)
      (try simp only [Act.put,aT,aZ,aS])
      refine wpAnyH_ready (rs := [1,13]) (by kernel_rfl) (by simp) ?_
      refine AllReadyH.cons (o := ⟨some 31,.load 3 (.tmp 30),3,"ref.go:72",#[⟨0,.data⟩],none⟩) rfl (fun K hK => ?_) ?_
      · have x0 := hx.at_ 0 (.int .i64 r.1) rfl
        have x1 := hx.at_ 1 (.int .i64 r.2) rfl
        go_simp
        clear x0 x1
        refine hK.out _ _ hB (fun hS2 => ?_)
        clear hK K
        (try simp only [Act.put,aT,aZ,aS])
        refine wpAnyH_take (i := 11) (oi := ⟨some 41,.call { callee := .builtin .max,args := #[.tmp 31,.tmp 40],argTypes := #[3,3] },3,"ref.go:72",#[⟨1,.data⟩,⟨10,.data⟩],none⟩) (v := ?_) rfl (by kernel_rfl) (by kernel_rfl) (by kernel_rfl) (fun _ _ _ h => by cases h.1) (.inl ⟨by rfl,?_⟩) (by assumption) ?_
        rotate_left
        · (intro w' hSw; (try dsimp only at hSw); (have j16 := (h1.job.below hSw h1.job.lt).at_ 16 (.int .i64 J.wi) rfl; have s0 := (hSw.cell (p := ⟨q,off + k * 2,none⟩) hbl).trans e0; have s1 := (hSw.cell (p := ⟨q,off + k * 2 + 1,none⟩) hbl).trans e1); go_simp <;> with_reducible rfl)
        (try simp only [Act.put,aT,aZ,aS])
        refine wpAnyH_ready (rs := [13]) (by kernel_rfl) (by simp) ?_
        refine AllReadyH.cons (o := ⟨some 43,.load 3 (.tmp 42),3,"ref.go:72",#[⟨12,.data⟩],none⟩) rfl (fun K hK => ?_) ?_
        · have x0 := hx.at_ 0 (.int .i64 r.1) rfl
          have x1 := hx.at_ 1 (.int .i64 r.2) rfl
          go_simp
          clear x0 x1
          refine hK.out _ _ hB (fun hS2 => ?_)
          clear hK K
          (try simp only [Act.put,aT,aZ,aS])
          refine wpAnyH_take (i := 22) (oi := ⟨some 52,.call { callee := .builtin .min,args := #[.tmp 43,.tmp 51],argTypes := #[3,3] },3,"ref.go:72",#[⟨13,.data⟩,⟨21,.data⟩],none⟩) (v := ?_) rfl (by kernel_rfl) (by kernel_rfl) (by kernel_rfl) (fun _ _ _ h => by cases h.1) (.inl ⟨by rfl,?_⟩) (by assumption) ?_
          rotate_left
          · (intro w' hSw; (try dsimp only at hSw); (have j16 := (h1.job.below hSw h1.job.lt).at_ 16 (.int .i64 J.wi) rfl; have s0 := (hSw.cell (p := ⟨q,off + k * 2,none⟩) hbl).trans e0; have s1 := (hSw.cell (p := ⟨q,off + k * 2 + 1,none⟩) hbl).trans e1); go_simp <;> with_reducible rfl)
          (try simp only [Act.put,aT,aZ,aS])
          refine wpAnyH_take (i := 23) (oi := ⟨some 53,.build 23 #[(0,.tmp 41),(1,.tmp 52)],23,"ref.go:72",#[⟨11,.data⟩,⟨22,.data⟩],none⟩) (v := ?_) rfl (by kernel_rfl) (by kernel_rfl) (by kernel_rfl) (fun _ _ _ h => by cases h.1) (.inl ⟨by rfl,?_⟩) (by assumption) ?_
          rotate_left
          · (intro w' hSw; (try dsimp only at hSw); (have j16 := (h1.job.below hSw h1.job.lt).at_ 16 (.int .i64 J.wi) rfl; have s0 := (hSw.cell (p := ⟨q,off + k * 2,none⟩) hbl).trans e0; have s1 := (hSw.cell (p := ⟨q,off + k * 2 + 1,none⟩) hbl).trans e1); go_simp <;> with_reducible rfl)
          (try simp only [Act.put,aT,aZ,aS])
          refine wpAnyH_ready (rs := [24]) (by kernel_rfl) (by simp) ?_
          refine AllReadyH.cons (o := ⟨none,.store 23 (.tmp 4) (.tmp 53),0,"ref.go:72",#[⟨23,.data⟩,⟨0,.phase⟩,⟨1,.phase⟩,⟨2,.phase⟩,⟨3,.phase⟩,⟨4,.phase⟩,⟨5,.phase⟩,⟨6,.phase⟩,⟨7,.phase⟩,⟨8,.phase⟩,⟨9,.phase⟩,⟨10,.phase⟩,⟨11,.phase⟩,⟨12,.phase⟩,⟨13,.phase⟩,⟨14,.phase⟩,⟨15,.phase⟩,⟨16,.phase⟩,⟨17,.phase⟩,⟨18,.phase⟩,⟨19,.phase⟩,⟨20,.phase⟩,⟨21,.phase⟩,⟨22,.phase⟩,⟨23,.phase⟩],none⟩) rfl (fun K hK => ?_) ?_
          · have d0 := hx.at_ 0 (.int .i64 r.1) rfl
            have d1 := hx.at_ 1 (.int .i64 r.2) rfl
            have f0 := hx.free 0
            have f1 := hx.free 1
            have hx' := hx.put2 (.int .i64 (if r.1 < -J.wi - s.1 then -J.wi - s.1 else r.1)) (.int .i64 (if J.wi - s.2 < r.2 then J.wi - s.2 else r.2))
            have hB' := (hB.setCell (p := ⟨g4,0,none⟩) hg4 (.int .i64 (if r.1 < -J.wi - s.1 then -J.wi - s.1 else r.1))).setCell (p := ⟨g4,1,none⟩) hg4 (.int .i64 (if J.wi - s.2 < r.2 then J.wi - s.2 else r.2))
            go_simp
            refine hK.out _ _ hB' (fun hS3 => ?_)
            clear hK K
            (try simp only [Act.put,aT,aZ,aS])
            refine wpAnyH_done (by kernel_rfl) ?_ _
            exact ⟨rfl,_,_,_,_,_,_,_,_,_,_,_,_,_,_,_,_,_,_,_,_,_,_,_,_,rfl,hx',hB'⟩
          exact AllReadyH.nil
        exact AllReadyH.nil
      refine AllReadyH.cons (o := ⟨some 43,.load 3 (.tmp 42),3,"ref.go:72",#[⟨12,.data⟩],none⟩) rfl (fun K hK => ?_) ?_
      · have x0 := hx.at_ 0 (.int .i64 r.1) rfl
        have x1 := hx.at_ 1 (.int .i64 r.2) rfl
        go_simp
        clear x0 x1
        refine hK.out _ _ hB (fun hS2 => ?_)
        clear hK K
        (try simp only [Act.put,aT,aZ,aS])
        refine wpAnyH_take (i := 22) (oi := ⟨some 52,.call { callee := .builtin .min,args := #[.tmp 43,.tmp 51],argTypes := #[3,3] },3,"ref.go:72",#[⟨13,.data⟩,⟨21,.data⟩],none⟩) (v := ?_) rfl (by kernel_rfl) (by kernel_rfl) (by kernel_rfl) (fun _ _ _ h => by cases h.1) (.inl ⟨by rfl,?_⟩) (by assumption) ?_
        rotate_left
        · (intro w' hSw; (try dsimp only at hSw); (have j16 := (h1.job.below hSw h1.job.lt).at_ 16 (.int .i64 J.wi) rfl; have s0 := (hSw.cell (p := ⟨q,off + k * 2,none⟩) hbl).trans e0; have s1 := (hSw.cell (p := ⟨q,off + k * 2 + 1,none⟩) hbl).trans e1); go_simp <;> with_reducible rfl)
        (try simp only [Act.put,aT,aZ,aS])
        refine wpAnyH_ready (rs := [1]) (by kernel_rfl) (by simp) ?_
        refine AllReadyH.cons (o := ⟨some 31,.load 3 (.tmp 30),3,"ref.go:72",#[⟨0,.data⟩],none⟩) rfl (fun K hK => ?_) ?_
        · have x0 := hx.at_ 0 (.int .i64 r.1) rfl
          have x1 := hx.at_ 1 (.int .i64 r.2) rfl
          go_simp
          clear x0 x1
          refine hK.out _ _ hB (fun hS2 => ?_)
          clear hK K
          (try simp only [Act.put,aT,aZ,aS])
          refine wpAnyH_take (i := 11) (oi := ⟨some 41,.call { callee := .builtin .max,args := #[.tmp 31,.tmp 40],argTypes := #[3,3] },3,"ref.go:72",#[⟨1,.data⟩,⟨10,.data⟩],none⟩) (v := ?_) rfl (by kernel_rfl) (by kernel_rfl) (by kernel_rfl) (fun _ _ _ h => by cases h.1) (.inl ⟨by rfl,?_⟩) (by assumption) ?_
          rotate_left
          · (intro w' hSw; (try dsimp only at hSw); (have j16 := (h1.job.below hSw h1.job.lt).at_ 16 (.int .i64 J.wi) rfl; have s0 := (hSw.cell (p := ⟨q,off + k * 2,none⟩) hbl).trans e0; have s1 := (hSw.cell (p := ⟨q,off + k * 2 + 1,none⟩) hbl).trans e1); go_simp <;> with_reducible rfl)
          (try simp only [Act.put,aT,aZ,aS])
          refine wpAnyH_take (i := 23) (oi := ⟨some 53,.build 23 #[(0,.tmp 41),(1,.tmp 52)],23,"ref.go:72",#[⟨11,.data⟩,⟨22,.data⟩],none⟩) (v := ?_) rfl (by kernel_rfl) (by kernel_rfl) (by kernel_rfl) (fun _ _ _ h => by cases h.1) (.inl ⟨by rfl,?_⟩) (by assumption) ?_
          rotate_left
          · (intro w' hSw; (try dsimp only at hSw); (have j16 := (h1.job.below hSw h1.job.lt).at_ 16 (.int .i64 J.wi) rfl; have s0 := (hSw.cell (p := ⟨q,off + k * 2,none⟩) hbl).trans e0; have s1 := (hSw.cell (p := ⟨q,off + k * 2 + 1,none⟩) hbl).trans e1); go_simp <;> with_reducible rfl)
          (try simp only [Act.put,aT,aZ,aS])
          refine wpAnyH_ready (rs := [24]) (by kernel_rfl) (by simp) ?_
          refine AllReadyH.cons (o := ⟨none,.store 23 (.tmp 4) (.tmp 53),0,"ref.go:72",#[⟨23,.data⟩,⟨0,.phase⟩,⟨1,.phase⟩,⟨2,.phase⟩,⟨3,.phase⟩,⟨4,.phase⟩,⟨5,.phase⟩,⟨6,.phase⟩,⟨7,.phase⟩,⟨8,.phase⟩,⟨9,.phase⟩,⟨10,.phase⟩,⟨11,.phase⟩,⟨12,.phase⟩,⟨13,.phase⟩,⟨14,.phase⟩,⟨15,.phase⟩,⟨16,.phase⟩,⟨17,.phase⟩,⟨18,.phase⟩,⟨19,.phase⟩,⟨20,.phase⟩,⟨21,.phase⟩,⟨22,.phase⟩,⟨23,.phase⟩],none⟩) rfl (fun K hK => ?_) ?_
          · have d0 := hx.at_ 0 (.int .i64 r.1) rfl
            have d1 := hx.at_ 1 (.int .i64 r.2) rfl
            have f0 := hx.free 0
            have f1 := hx.free 1
            have hx' := hx.put2 (.int .i64 (if r.1 < -J.wi - s.1 then -J.wi - s.1 else r.1)) (.int .i64 (if J.wi - s.2 < r.2 then J.wi - s.2 else r.2))
            have hB' := (hB.setCell (p := ⟨g4,0,none⟩) hg4 (.int .i64 (if r.1 < -J.wi - s.1 then -J.wi - s.1 else r.1))).setCell (p := ⟨g4,1,none⟩) hg4 (.int .i64 (if J.wi - s.2 < r.2 then J.wi - s.2 else r.2))
            go_simp
            refine hK.out _ _ hB' (fun hS3 => ?_)
            clear hK K
            (try simp only [Act.put,aT,aZ,aS])
            refine wpAnyH_done (by kernel_rfl) ?_ _
            exact ⟨rfl,_,_,_,_,_,_,_,_,_,_,_,_,_,_,_,_,_,_,_,_,_,_,_,_,rfl,hx',hB'⟩
          exact AllReadyH.nil
        exact AllReadyH.nil
      exact AllReadyH.nil
    · obtain rfl : k = m := by omega
      have HX := hidMk hx
      have HB := hidMk hB
      have hrw : Hid (r = win J.wi J.sh) := by
        show r = _
        rw [Hr.out,show (conds J.sh).take k = conds J.sh by rw [HM.out]; exact List.take_length]
        exact win_from _ _ _ HC0.out
      clear hx hB
      go_wp2_with fail
      exact wnpart4 h1 hc HM.out HB.out HV.out HX.out hg4 hrw.out
set_option maxHeartbeats 4000000 in
set_option maxRecDepth 1000000 in
theorem wnpart2 {w0 w1 : World} {g1 g2 : Nat} {J : Jb} {a : Option Addr} {n c : Nat} {V : R2} {q off m d : Nat} {w : World} {u0 u4 u5 u6 u7 u8 u9 u10 u11 u12 u13 u14 u15 u16 u17 u18 u19 u20 u21 u22 u23 u24 u25 u26 u27 u28 u29 u30 u31 u32 u33 u34 u35 u36 u37 u38 u39 u40 u41 u42 u43 u44 u45 u46 u47 u48 u49 u50 u51 u52 u53 u54 : Value} (h1 : WS w0 w1 g1 g2 J a n c) (hc : Rg w1 w1.heap.size (some ⟨q,off,none⟩) (conds J.sh)) (hm : m = (conds J.sh).length) (hB : Below w1.heap.size w1 w) (hV : V = win J.wi J.sh) : Code.wp Try.prog wnrest2 (QW V w0) ⟨#[u0,(.pointer (some ⟨g1,0,none⟩)),(.pointer (some ⟨g2,0,none⟩)),(.slice (some ⟨q,off,none⟩) m d),u4,u5,u6,u7,u8,u9,u10,u11,u12,u13,u14,u15,u16,u17,u18,u19,u20,u21,u22,u23,u24,u25,u26,u27,u28,u29,u30,u31,u32,u33,u34,u35,u36,u37,u38,u39,u40,u41,u42,u43,u44,u45,u46,u47,u48,u49,u50,u51,u52,u53,u54],[]⟩ w := by
  rw [wnrest2_eq]
  have hwi := h1.inn.wi
  obtain ⟨hwi1,hwi2⟩ := hwi
  obtain ⟨c0,hc0⟩ := conds_0 J.sh
  have HV := hidMk hV
  have HM := hidMk hm
  have hm0 : 0 < m := by
    have := (List.getElem?_eq_some_iff.1 hc0).1
    omega
  clear hV hm
  have HC0 := hidMk hc0
  have hsb := conds_in J.sh h1.inn.sh c0 (List.mem_of_getElem? hc0)
  obtain ⟨q',off',e',hbl,e0,e1⟩ := hc 0 c0 hc0
  cases e'
  simp only [Nat.zero_mul,Nat.add_zero] at e0 e1
  clear hc0
  obtain ⟨s,Hs⟩ : ∃ s,Hid (s = c0) := ⟨_,hidMk rfl⟩
  rw [← Hs.out] at e0 e1 hsb
  obtain ⟨sb1,sb2,sb3,sb4⟩ := hsb
  have ew1 : IntKind.i64.wrap (-J.wi) = -J.wi := IntWalk.i64_in _ (by omega)
  have ew2 : IntKind.i64.wrap (-J.wi - s.1) = -J.wi - s.1 := IntWalk.i64_in _ (by omega)
  have ew3 : IntKind.i64.wrap (J.wi - s.2) = J.wi - s.2 := IntWalk.i64_in _ (by omega)
  refine wp_seq_k fun K0 hK0 => ?_
  refine region_via (R := fun a e a' w' => e = .normal ∧ ∃ (v8 v9 v10 v11 v12 v13 v14 v15 v16 v17 v18 v19 v20 v21 v22 v23 : Value) (g4 : Nat),a' = (((((((((((((((((a.put (some 8) v8).put (some 9) v9).put (some 10) v10).put (some 11) v11).put (some 12) v12).put (some 13) v13).put (some 14) v14).put (some 15) v15).put (some 16) v16).put (some 17) v17).put (some 18) v18).put (some 19) v19).put (some 20) v20).put (some 21) v21).put (some 22) v22).put (some 23) v23).put (some 4) (.pointer (some ⟨g4,0,none⟩))) ∧ Bk w' g4 23 #[.int .i64 (-J.wi - s.1),.int .i64 (J.wi - s.2)] ∧ Below w1.heap.size w1 w' ∧ w1.heap.size ≤ g4) ?_ ?_
  rotate_left
  · rintro e a' w' ⟨rfl,v8,v9,v10,v11,v12,v13,v14,v15,v16,v17,v18,v19,v20,v21,v22,v23,g4,rfl,hx',hB',hg4⟩
    refine hK0 _ _ ?_
    simp only [Act.put,aT,aZ,aS]
    exact wnpart3 (r := ((-J.wi - s.1),(J.wi - s.2))) h1 hc HM.out hB' HV.out hx' hg4 HC0.out (by rw [← Hs.out]; rfl)
  refine wp_region_held_drew (S := fun w' => Below w1.heap.size w1 w') (by kernel_rfl) hB.drew (fun hS0 => ?_)
  replace hB := hB.drew
  generalize hWd : w.drew = wd at hS0 hB ⊢
  clear hWd
  refine wpAnyH_take (i := 0) (oi := ⟨some 8,.fieldAddr 30 (.tmp 1) 3,0,"ref.go:70",#[],none⟩) (v := ?_) rfl (by kernel_rfl) (by kernel_rfl) (by kernel_rfl) (fun _ _ _ h => by cases h.1) (.inl ⟨by rfl,?_⟩) (by assumption) ?_
  rotate_left
  · (intro w' hSw; (try dsimp only at hSw); (have j16 := (h1.job.below hSw h1.job.lt).at_ 16 (.int .i64 J.wi) rfl; have s0 := (hSw.cell (p := ⟨q,off,none⟩) hbl).trans e0; have s1 := (hSw.cell (p := ⟨q,off + 1,none⟩) hbl).trans e1); go_simp <;> with_reducible rfl)
  (try simp only [Act.put,aT,aZ,aS])
  refine wpAnyH_take (i := 1) (oi := ⟨some 9,.load 3 (.tmp 8),3,"ref.go:70",#[⟨0,.data⟩],none⟩) (v := ?_) rfl (by kernel_rfl) (by kernel_rfl) (by kernel_rfl) (fun _ _ _ h => by cases h.1) (.inl ⟨by rfl,?_⟩) (by assumption) ?_
  rotate_left
  · (intro w' hSw; (try dsimp only at hSw); (have j16 := (h1.job.below hSw h1.job.lt).at_ 16 (.int .i64 J.wi) rfl; have s0 := (hSw.cell (p := ⟨q,off,none⟩) hbl).trans e0; have s1 := (hSw.cell (p := ⟨q,off + 1,none⟩) hbl).trans e1); go_simp <;> with_reducible rfl)
  (try simp only [Act.put,aT,aZ,aS])
  refine wpAnyH_take (i := 2) (oi := ⟨some 10,.unOp .neg 3 (.tmp 9),3,"ref.go:70",#[⟨1,.data⟩],none⟩) (v := ?_) rfl (by kernel_rfl) (by kernel_rfl) (by kernel_rfl) (fun _ _ _ h => by cases h.1) (.inl ⟨by rfl,?_⟩) (by assumption) ?_
  rotate_left
  · (intro w' hSw; (try dsimp only at hSw); (have j16 := (h1.job.below hSw h1.job.lt).at_ 16 (.int .i64 J.wi) rfl; have s0 := (hSw.cell (p := ⟨q,off,none⟩) hbl).trans e0; have s1 := (hSw.cell (p := ⟨q,off + 1,none⟩) hbl).trans e1); go_simp <;> with_reducible rfl)
  (try simp only [Act.put,aT,aZ,aS])
  refine wpAnyH_take (i := 3) (oi := ⟨some 11,.move (.tmp 3),28,"ref.go:70",#[],none⟩) (v := ?_) rfl (by kernel_rfl) (by kernel_rfl) (by kernel_rfl) (fun _ _ _ h => by cases h.1) (.inl ⟨by rfl,?_⟩) (by assumption) ?_
  rotate_left
  · (intro w' hSw; (try dsimp only at hSw); (have j16 := (h1.job.below hSw h1.job.lt).at_ 16 (.int .i64 J.wi) rfl; have s0 := (hSw.cell (p := ⟨q,off,none⟩) hbl).trans e0; have s1 := (hSw.cell (p := ⟨q,off + 1,none⟩) hbl).trans e1); go_simp <;> with_reducible rfl)
  (try simp only [Act.put,aT,aZ,aS])
  refine wpAnyH_take (i := 4) (oi := ⟨some 12,.indexAddr 28 (.tmp 11) (.const (.int .i64 0)),0,"ref.go:70",#[⟨3,.data⟩],none⟩) (v := ?_) rfl (by kernel_rfl) (by kernel_rfl) (by kernel_rfl) (fun _ _ _ h => by cases h.1) (.inl ⟨by rfl,?_⟩) (by assumption) ?_
  rotate_left
  · (intro w' hSw; (try dsimp only at hSw); (have j16 := (h1.job.below hSw h1.job.lt).at_ 16 (.int .i64 J.wi) rfl; have s0 := (hSw.cell (p := ⟨q,off,none⟩) hbl).trans e0; have s1 := (hSw.cell (p := ⟨q,off + 1,none⟩) hbl).trans e1); go_simp <;> with_reducible rfl)
  (try simp only [Act.put,aT,aZ,aS])
  refine wpAnyH_take (i := 5) (oi := ⟨some 13,.fieldAddr 23 (.tmp 12) 0,0,"ref.go:70",#[⟨4,.data⟩],none⟩) (v := ?_) rfl (by kernel_rfl) (by kernel_rfl) (by kernel_rfl) (fun _ _ _ h => by cases h.1) (.inl ⟨by rfl,?_⟩) (by assumption) ?_
  rotate_left
  · (intro w' hSw; (try dsimp only at hSw); (have j16 := (h1.job.below hSw h1.job.lt).at_ 16 (.int .i64 J.wi) rfl; have s0 := (hSw.cell (p := ⟨q,off,none⟩) hbl).trans e0; have s1 := (hSw.cell (p := ⟨q,off + 1,none⟩) hbl).trans e1); go_simp <;> with_reducible rfl)
  (try simp only [Act.put,aT,aZ,aS])
  refine wpAnyH_take (i := 6) (oi := ⟨some 14,.load 3 (.tmp 13),3,"ref.go:70",#[⟨5,.data⟩],none⟩) (v := ?_) rfl (by kernel_rfl) (by kernel_rfl) (by kernel_rfl) (fun _ _ _ h => by cases h.1) (.inl ⟨by rfl,?_⟩) (by assumption) ?_
  rotate_left
  · (intro w' hSw; (try dsimp only at hSw); (have j16 := (h1.job.below hSw h1.job.lt).at_ 16 (.int .i64 J.wi) rfl; have s0 := (hSw.cell (p := ⟨q,off,none⟩) hbl).trans e0; have s1 := (hSw.cell (p := ⟨q,off + 1,none⟩) hbl).trans e1); go_simp <;> with_reducible rfl)
  (try simp only [Act.put,aT,aZ,aS])
  refine wpAnyH_take (i := 7) (oi := ⟨some 15,.binOp .sub 3 (.tmp 10) (.tmp 14) 3,3,"ref.go:70",#[⟨2,.data⟩,⟨6,.data⟩],none⟩) (v := ?_) rfl (by kernel_rfl) (by kernel_rfl) (by kernel_rfl) (fun _ _ _ h => by cases h.1) (.inl ⟨by rfl,?_⟩) (by assumption) ?_
  rotate_left
  · (intro w' hSw; (try dsimp only at hSw); (have j16 := (h1.job.below hSw h1.job.lt).at_ 16 (.int .i64 J.wi) rfl; have s0 := (hSw.cell (p := ⟨q,off,none⟩) hbl).trans e0; have s1 := (hSw.cell (p := ⟨q,off + 1,none⟩) hbl).trans e1); go_simp <;> with_reducible rfl)
  (try simp only [Act.put,aT,aZ,aS])
  refine wpAnyH_take (i := 8) (oi := ⟨some 16,.fieldAddr 30 (.tmp 1) 3,0,"ref.go:70",#[],none⟩) (v := ?_) rfl (by kernel_rfl) (by kernel_rfl) (by kernel_rfl) (fun _ _ _ h => by cases h.1) (.inl ⟨by rfl,?_⟩) (by assumption) ?_
  rotate_left
  · (intro w' hSw; (try dsimp only at hSw); (have j16 := (h1.job.below hSw h1.job.lt).at_ 16 (.int .i64 J.wi) rfl; have s0 := (hSw.cell (p := ⟨q,off,none⟩) hbl).trans e0; have s1 := (hSw.cell (p := ⟨q,off + 1,none⟩) hbl).trans e1); go_simp <;> with_reducible rfl)
  (try simp only [Act.put,aT,aZ,aS])
  refine wpAnyH_take (i := 9) (oi := ⟨some 17,.load 3 (.tmp 16),3,"ref.go:70",#[⟨8,.data⟩],none⟩) (v := ?_) rfl (by kernel_rfl) (by kernel_rfl) (by kernel_rfl) (fun _ _ _ h => by cases h.1) (.inl ⟨by rfl,?_⟩) (by assumption) ?_
  rotate_left
  · (intro w' hSw; (try dsimp only at hSw); (have j16 := (h1.job.below hSw h1.job.lt).at_ 16 (.int .i64 J.wi) rfl; have s0 := (hSw.cell (p := ⟨q,off,none⟩) hbl).trans e0; have s1 := (hSw.cell (p := ⟨q,off + 1,none⟩) hbl).trans e1); go_simp <;> with_reducible rfl)
  (try simp only [Act.put,aT,aZ,aS])
  refine wpAnyH_take (i := 10) (oi := ⟨some 18,.move (.tmp 3),28,"ref.go:70",#[],none⟩) (v := ?_) rfl (by kernel_rfl) (by kernel_rfl) (by kernel_rfl) (fun _ _ _ h => by cases h.1) (.inl ⟨by rfl,?_⟩) (by assumption) ?_
  rotate_left
  · (intro w' hSw; (try dsimp only at hSw); (have j16 := (h1.job.below hSw h1.job.lt).at_ 16 (.int .i64 J.wi) rfl; have s0 := (hSw.cell (p := ⟨q,off,none⟩) hbl).trans e0; have s1 := (hSw.cell (p := ⟨q,off + 1,none⟩) hbl).trans e1); go_simp <;> with_reducible rfl)
  (try simp only [Act.put,aT,aZ,aS])
  refine wpAnyH_take (i := 11) (oi := ⟨some 19,.indexAddr 28 (.tmp 18) (.const (.int .i64 0)),0,"ref.go:70",#[⟨10,.data⟩],none⟩) (v := ?_) rfl (by kernel_rfl) (by kernel_rfl) (by kernel_rfl) (fun _ _ _ h => by cases h.1) (.inl ⟨by rfl,?_⟩) (by assumption) ?_
  rotate_left
  · (intro w' hSw; (try dsimp only at hSw); (have j16 := (h1.job.below hSw h1.job.lt).at_ 16 (.int .i64 J.wi) rfl; have s0 := (hSw.cell (p := ⟨q,off,none⟩) hbl).trans e0; have s1 := (hSw.cell (p := ⟨q,off + 1,none⟩) hbl).trans e1); go_simp <;> with_reducible rfl)
  (try simp only [Act.put,aT,aZ,aS])
  refine wpAnyH_take (i := 12) (oi := ⟨some 20,.fieldAddr 23 (.tmp 19) 1,0,"ref.go:70",#[⟨11,.data⟩],none⟩) (v := ?_) rfl (by kernel_rfl) (by kernel_rfl) (by kernel_rfl) (fun _ _ _ h => by cases h.1) (.inl ⟨by rfl,?_⟩) (by assumption) ?_
  rotate_left
  · (intro w' hSw; (try dsimp only at hSw); (have j16 := (h1.job.below hSw h1.job.lt).at_ 16 (.int .i64 J.wi) rfl; have s0 := (hSw.cell (p := ⟨q,off,none⟩) hbl).trans e0; have s1 := (hSw.cell (p := ⟨q,off + 1,none⟩) hbl).trans e1); go_simp <;> with_reducible rfl)
  (try simp only [Act.put,aT,aZ,aS])
  refine wpAnyH_take (i := 13) (oi := ⟨some 21,.load 3 (.tmp 20),3,"ref.go:70",#[⟨12,.data⟩],none⟩) (v := ?_) rfl (by kernel_rfl) (by kernel_rfl) (by kernel_rfl) (fun _ _ _ h => by cases h.1) (.inl ⟨by rfl,?_⟩) (by assumption) ?_
  rotate_left
  · (intro w' hSw; (try dsimp only at hSw); (have j16 := (h1.job.below hSw h1.job.lt).at_ 16 (.int .i64 J.wi) rfl; have s0 := (hSw.cell (p := ⟨q,off,none⟩) hbl).trans e0; have s1 := (hSw.cell (p := ⟨q,off + 1,none⟩) hbl).trans e1); go_simp <;> with_reducible rfl)
  (try simp only [Act.put,aT,aZ,aS])
  refine wpAnyH_take (i := 14) (oi := ⟨some 22,.binOp .sub 3 (.tmp 17) (.tmp 21) 3,3,"ref.go:70",#[⟨9,.data⟩,⟨13,.data⟩],none⟩) (v := ?_) rfl (by kernel_rfl) (by kernel_rfl) (by kernel_rfl) (fun _ _ _ h => by cases h.1) (.inl ⟨by rfl,?_⟩) (by assumption) ?_
  rotate_left
  · (intro w' hSw; (try dsimp only at hSw); (have j16 := (h1.job.below hSw h1.job.lt).at_ 16 (.int .i64 J.wi) rfl; have s0 := (hSw.cell (p := ⟨q,off,none⟩) hbl).trans e0; have s1 := (hSw.cell (p := ⟨q,off + 1,none⟩) hbl).trans e1); go_simp <;> with_reducible rfl)
  (try simp only [Act.put,aT,aZ,aS])
  refine wpAnyH_take (i := 15) (oi := ⟨some 23,.build 23 #[(0,.tmp 15),(1,.tmp 22)],23,"ref.go:70",#[⟨7,.data⟩,⟨14,.data⟩],none⟩) (v := ?_) rfl (by kernel_rfl) (by kernel_rfl) (by kernel_rfl) (fun _ _ _ h => by cases h.1) (.inl ⟨by rfl,?_⟩) (by assumption) ?_
  rotate_left
  · (intro w' hSw; (try dsimp only at hSw); (have j16 := (h1.job.below hSw h1.job.lt).at_ 16 (.int .i64 J.wi) rfl; have s0 := (hSw.cell (p := ⟨q,off,none⟩) hbl).trans e0; have s1 := (hSw.cell (p := ⟨q,off + 1,none⟩) hbl).trans e1); go_simp <;> with_reducible rfl)
  (try simp only [Act.put,aT,aZ,aS])
  refine wpAnyH_ready (rs := [16]) (by kernel_rfl) (by simp) ?_
  refine AllReadyH.cons (o := ⟨some 4,.alloc 23,0,"ref.go:70",#[],none⟩) rfl (fun K hK => ?_) ?_
  · have hx0 : Bk (wd.alloc (.cells #[.int .i64 0,.int .i64 0] 23)) wd.heap.size 23 #[.int .i64 0,.int .i64 0] := Bk.new _ _ _
    have hB6 : Below w1.heap.size w1 (wd.alloc (.cells #[.int .i64 0,.int .i64 0] 23)) := hB.alloc hB.size _
    have hg4 := hB.size
    go_simp
    refine hK.out _ _ hB6 (fun hS2 => ?_)
    generalize hW6 : wd.alloc (.cells #[.int .i64 0,.int .i64 0] 23) = w6 at hS2 hx0 hB6 ⊢
    clear hW6
    clear hK K
    (try simp only [Act.put,aT,aZ,aS])
    refine wpAnyH_ready (rs := [17]) (by kernel_rfl) (by simp) ?_
    refine AllReadyH.cons (o := ⟨none,.store 23 (.tmp 4) (.tmp 23),0,"ref.go:70",#[⟨16,.data⟩,⟨15,.data⟩,⟨0,.phase⟩,⟨1,.phase⟩,⟨2,.phase⟩,⟨3,.phase⟩,⟨4,.phase⟩,⟨5,.phase⟩,⟨6,.phase⟩,⟨7,.phase⟩,⟨8,.phase⟩,⟨9,.phase⟩,⟨10,.phase⟩,⟨11,.phase⟩,⟨12,.phase⟩,⟨13,.phase⟩,⟨14,.phase⟩,⟨15,.phase⟩,⟨16,.phase⟩],none⟩) rfl (fun K hK => ?_) ?_
    · have d0 := hx0.at_ 0 (.int .i64 0) rfl
      have d1 := hx0.at_ 1 (.int .i64 0) rfl
      have f0 := hx0.free 0
      have f1 := hx0.free 1
      have hx' := hx0.put2 (.int .i64 (-J.wi - s.1)) (.int .i64 (J.wi - s.2))
      have hB' := (hB6.setCell (p := ⟨wd.heap.size,0,none⟩) hg4 (.int .i64 (-J.wi - s.1))).setCell (p := ⟨wd.heap.size,1,none⟩) hg4 (.int .i64 (J.wi - s.2))
      go_simp
      refine hK.out _ _ hB' (fun hS3 => ?_)
      clear hK K
      (try simp only [Act.put,aT,aZ,aS])
      refine wpAnyH_done (by kernel_rfl) ?_ _
      exact ⟨rfl,_,_,_,_,_,_,_,_,_,_,_,_,_,_,_,_,wd.heap.size,rfl,hx',hB',hg4⟩
    exact AllReadyH.nil
  exact AllReadyH.nil
set_option maxHeartbeats 1000000 in
set_option maxRecDepth 100000 in
theorem refWindow0_any (J : Jb) (hJ : J.In 200) (a : Option Addr) (n c : Nat) (w : World) (hn : n = J.sh.length) (h : Rg w w.heap.size a J.sh) :
    Calls Try.prog 52 #[.agg (jobC J (.slice a n c))] w fun e w' => e = .returned (.agg #[.int .i64 (win J.wi J.sh).1,.int .i64 (win J.wi J.sh).2]) ∧ Below w.heap.size w w' := by
  have hm4 : n ≤ 4 := by have := hJ.len; omega
  have Hn := hidMk hn
  have Hh := hidMk h
  have HJ := hidMk hJ
  have hj0 : Bk ((w.alloc (.cells (jobC J (.slice a n c)) 30)).alloc (.cells #[.int .i64 0,.int .i64 0] 23)) w.heap.size 30 (jobC J (.slice a n c)) := (Bk.new _ _ _).alloc _
  have hr0 : Bk ((w.alloc (.cells (jobC J (.slice a n c)) 30)).alloc (.cells #[.int .i64 0,.int .i64 0] 23)) (w.heap.size + 1) 23 #[.int .i64 0,.int .i64 0] := Bk.newAt _ _ _ _ (by simp)
  have hW : Below w.heap.size w ((w.alloc (.cells (jobC J (.slice a n c)) 30)).alloc (.cells #[.int .i64 0,.int .i64 0] 23)) := ((Below.refl _ _).alloc (Nat.le_refl _) _).alloc (by simp) _
  clear hn h hJ
  go_enter Try.func52,Try.ntmps52
  show Code.wp Try.prog wnbody (QW (win J.wi J.sh) w) _ _
  rw [wnbody_eq,wnrest1_eq]
  go_wp2_with (refine wpList_load_row rfl 30 _ rfl w.heap.size rfl _ (jobC J (.slice a n c)) _ _ hj0 Try.underlying30 rfl szJob ?_)
  refine (refShifts_any J a n c _ Hn.out hm4 (Hh.out.up hW)).mono ?_
  rintro e w1 ⟨a',c',rfl,hrg,hb1⟩
  obtain ⟨c0,hc0⟩ := conds_0 J.sh
  obtain ⟨q,off,rfl,_,_,_⟩ := hrg 0 c0 hc0
  have h1 : WS w w1 w.heap.size (w.heap.size + 1) J a n c := ⟨hj0.below hb1 hj0.lt,hr0.below hb1 hr0.lt,hW.trans (hb1.mono hW.size),by omega,HJ.out⟩
  have H1 := hidMk h1
  have HRG := hidMk hrg
  clear hc0 hrg hb1 hj0 hr0 hW h1
  go_wp2_with fail
  exact wnpart2 H1.out HRG.out rfl (Below.refl _ _) rfl
end Go.Proofs.Ytadmcafbffjjbaa
/- Contracts of the reference's functions on strokes. -/
namespace Go.Proofs.Ytadmcafbffjjbaa
set_option linter.all false
open Go.RowKit
def fileV (J : Jb) : Array Value := #[.int .i64 J.u1,.int .i64 J.u2,.int .i64 J.d1,.int .i64 J.d2,.int .i64 J.x1,.int .i64 J.x2,.int .i64 J.y1,.int .i64 J.y2,.int .i64 J.le]
def tgV (t : Tg) : Array Value := #[.int .i64 t.p1,.int .i64 t.p2,.int .i64 t.t1,.int .i64 t.t2,.int .i64 t.r1,.int .i64 t.r2]
theorem below_two (w : World) (o p : Obj) : Below w.heap.size w ((w.alloc o).alloc p) := ((Below.refl _ _).alloc (Nat.le_refl _) _).alloc (by simp) _
set_option maxHeartbeats 1000000 in
set_option maxRecDepth 100000 in
theorem refSpoiled_any (J : Jb) (t : Tg) (w : World) :
    Calls Try.prog 83 #[.agg (fileV J),.agg (tgV t)] w fun e w' => e = .returned (.int .i64 (spoilI J.le t)) ∧ Below w.heap.size w w' := by
  unfold fileV tgV
  by_cases h1 : t.t2 < J.le
  · have H : Hid (spoilI J.le t = 1) := by show spoilI J.le t = 1; simp [spoilI,h1]
    go_enter Try.func83,Try.ntmps83
    go_wp2
    go_ret
    exact ⟨ret_i (by rw [H.out]; first | done | rfl),below_two _ _ _⟩
  · by_cases h2 : t.r2 < J.le
    · have H : Hid (spoilI J.le t = 1) := by show spoilI J.le t = 1; simp [spoilI,h2]
      go_enter Try.func83,Try.ntmps83
      go_wp2
      go_ret
      exact ⟨ret_i (by rw [H.out]; first | done | rfl),below_two _ _ _⟩
    · by_cases h3 : J.le ≤ t.t1
      · by_cases h4 : J.le ≤ t.r1
        · have H : Hid (spoilI J.le t = 2) := by show spoilI J.le t = 2; simp [spoilI,h1,h2,h3,h4]
          go_enter Try.func83,Try.ntmps83
          go_wp2
          go_ret
          exact ⟨ret_i (by rw [H.out]; first | done | rfl),below_two _ _ _⟩
        · have H : Hid (spoilI J.le t = 3) := by show spoilI J.le t = 3; simp [spoilI,h1,h2,h4]
          go_enter Try.func83,Try.ntmps83
          go_wp2
          go_ret
          exact ⟨ret_i (by rw [H.out]; first | done | rfl),below_two _ _ _⟩
      · have H : Hid (spoilI J.le t = 3) := by show spoilI J.le t = 3; simp [spoilI,h1,h2,h3]
        go_enter Try.func83,Try.ntmps83
        go_wp2
        go_ret
        exact ⟨ret_i (by rw [H.out]; first | done | rfl),below_two _ _ _⟩
theorem below_three (w : World) (o p q : Obj) : Below w.heap.size w (((w.alloc o).alloc p).alloc q) := (below_two w o p).alloc (by simp; omega) _
set_option maxHeartbeats 1000000 in
set_option maxRecDepth 100000 in
theorem refStroke_tip (J : Jb) (t : Tg) (w : World) (h : J.In 1000) (ht : t.In 1000) :
    Calls Try.prog 82 #[.agg (fileV J),.agg (tgV t),.int .i64 1] w fun e w' => e = .returned (.agg (tgV (strk J t 1))) ∧ Below w.heap.size w w' := by
  obtain ⟨p1,p1',p2,p2',t1,t1',t2,t2',r1,r1',r2,r2'⟩ := ht
  obtain ⟨_,_,_,_,_,_,⟨u1,u1'⟩,⟨u2,u2'⟩,⟨d1,d1'⟩,⟨d2,d2'⟩,⟨x1,x1'⟩,⟨x2,x2'⟩,⟨y1,y1'⟩,⟨y2,y2'⟩,_,_,_,_,_⟩ := h
  unfold fileV tgV
  go_enter Try.func82,Try.ntmps82
  go_wp2
  refine bodyPost_ret (results_cell_row Try.results82 _ _ _ _ _ _ _ rfl (Bk.newAt _ _ _ _ (by simp)) Try.underlying25 rfl szTongue) rfl ⟨ret_6 (by simp [strk]) (by simp [strk]) (by simp [strk]) (by simp [strk]) (by simp [strk]) (by simp [strk]),below_three _ _ _ _⟩
set_option maxHeartbeats 1000000 in
set_option maxRecDepth 100000 in
theorem refStroke_root (J : Jb) (t : Tg) (w : World) (h : J.In 1000) (ht : t.In 1000) :
    Calls Try.prog 82 #[.agg (fileV J),.agg (tgV t),.int .i64 2] w fun e w' => e = .returned (.agg (tgV (strk J t 2))) ∧ Below w.heap.size w w' := by
  obtain ⟨p1,p1',p2,p2',t1,t1',t2,t2',r1,r1',r2,r2'⟩ := ht
  obtain ⟨_,_,_,_,_,_,⟨u1,u1'⟩,⟨u2,u2'⟩,⟨d1,d1'⟩,⟨d2,d2'⟩,⟨x1,x1'⟩,⟨x2,x2'⟩,⟨y1,y1'⟩,⟨y2,y2'⟩,_,_,_,_,_⟩ := h
  unfold fileV tgV
  go_enter Try.func82,Try.ntmps82
  go_wp2
  refine bodyPost_ret (results_cell_row Try.results82 _ _ _ _ _ _ _ rfl (Bk.newAt _ _ _ _ (by simp)) Try.underlying25 rfl szTongue) rfl ⟨ret_6 (by simp [strk]) (by simp [strk]) (by simp [strk]) (by simp [strk]) (by simp [strk]) (by simp [strk]),below_three _ _ _ _⟩
theorem refStroke_any (J : Jb) (t : Tg) (k : Int) (hk : k = 1 ∨ k = 2) (w : World) (h : J.In 1000) (ht : t.In 1000) :
    Calls Try.prog 82 #[.agg (fileV J),.agg (tgV t),.int .i64 k] w fun e w' => e = .returned (.agg (tgV (strk J t k))) ∧ Below w.heap.size w w' := by
  rcases hk with rfl | rfl
  · exact refStroke_tip J t w h ht
  · exact refStroke_root J t w h ht
end Go.Proofs.Ytadmcafbffjjbaa
