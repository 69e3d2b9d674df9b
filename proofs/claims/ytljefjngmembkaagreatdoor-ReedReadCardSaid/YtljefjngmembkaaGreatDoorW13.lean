/- Part 13 of the proof: TxE, TxF, Leaf, Via, TxG, TxH, LeafB. -/
import Derived.Test.YtljefjngmembkaaGreatDoorProg
import Derived.WalkKit
import Derived.WalkLawsBesides
import Derived.Outline
import Derived.Carry
import Derived.Deep.RegionHeld3
import Derived.BigQuiet
import Derived.Test.YtljefjngmembkaaGreatDoorW12
/- Ranges: readSpan, span. -/
namespace Go.Proofs.YtljefjngmembkaaGreatDoor
set_option linter.all false
open Go.RowKit
theorem cut_any (s : ByteArray) (hs : s.size ≤ 1000000) (c : UInt8) (l1 l2 : ByteArray) (b : Bool) (hc : Lib.cut s.data.toList [c] = (l1.data.toList,l2.data.toList,b)) (w : World) (h : LibW w) :
    Calls Tryz.prog 58 #[.string s,.string ⟨#[c]⟩] w fun e w' => e = .returned (.tuple #[.string l1,.string l2,.bool b]) ∧ Below w.heap.size w w' := by
  obtain ⟨m,hm⟩ := h.max
  refine (Tryz.strings_Cut s ⟨#[c]⟩ m w (by omega) hm).mono ?_
  rintro e w' ⟨rfl,n,rfl⟩
  refine ⟨?_,⟨rfl,rfl,rfl,Nat.le_refl _,fun _ _ => rfl⟩⟩
  have e1 : (⟨#[c]⟩ : ByteArray).data.toList = [c] := rfl
  rw [e1,hc]
/-- What readSpan answers. -/
def SpanEnd (l : List UInt8) (w : World) (e : Ending) (w' : World) : Prop :=
  Below w.heap.size w w' ∧ ∃ v u b,e = .returned (.tuple #[.agg #[.int .i64 v,.int .i64 u],.bool b]) ∧ Tx.rdS 58 (-999) 999 l = if b then some (v,u) else none
theorem span_end {l : List UInt8} {l1 l2 : List UInt8} {v u : Int} {b b1 b2 : Bool} (hc : Lib.cut l [58] = (l1,l2,b)) (h1 : Tx.rdN (-999) 999 l1 = if b1 then some v else none) (h2 : Tx.rdN (-999) 999 l2 = if b2 then some u else none) :
    Tx.rdS 58 (-999) 999 l = if (b && b1 && b2) then some (v,u) else none := by
  unfold Tx.rdS
  rw [hc]
  simp only
  rw [h1,h2]
  cases b <;> cases b1 <;> cases b2 <;> rfl
theorem cut_len (l : List UInt8) (c : UInt8) : (Lib.cut l [c]).1.length ≤ l.length ∧ (Lib.cut l [c]).2.1.length ≤ l.length := by
  by_cases hc : c ∈ l
  · obtain ⟨a,b,rfl,ha⟩ := Tx.first_at hc
    rw [Tx.cut_at ha]
    simp only [List.length_append,List.length_cons]
    omega
  · rw [Tx.cut_no hc]
    simp
theorem made {w w1 : World} {t : TypeId} {cs : Array Value} (hb : Below (w.alloc (.cells cs t)).heap.size (w.alloc (.cells cs t)) w1) : Bk w1 w.heap.size t cs ∧ Below w.heap.size w w1 ∧ w.heap.size < w1.heap.size := by
  have hz := hb.size
  rw [World.size_alloc] at hb hz
  refine ⟨(Bk.new w t cs).below hb (by omega),((Below.refl _ _).alloc (Nat.le_refl _) _).trans (hb.mono (by omega)),by omega⟩
theorem below0 (w : World) (o : Obj) : Below w.heap.size w (w.alloc o) := (Below.refl _ _).alloc (Nat.le_refl _) _
set_option maxHeartbeats 400000 in
set_option maxRecDepth 100000 in
theorem readSpan_any (s : ByteArray) (hs : s.size ≤ 1000000) (w : World) (h : LibW w) :
    Calls Tryz.prog 83 #[.string s] w (SpanEnd s.data.toList w) := by
  have Hh : Hid (LibW w) := h
  clear h
  obtain ⟨l1,l2,b,hc,hs1,hs2⟩ : ∃ (l1 l2 : ByteArray) (b : Bool),Lib.cut s.data.toList [58] = (l1.data.toList,l2.data.toList,b) ∧ l1.size ≤ 1000000 ∧ l2.size ≤ 1000000 := by
    refine ⟨⟨(Lib.cut s.data.toList [58]).1.toArray⟩,⟨(Lib.cut s.data.toList [58]).2.1.toArray⟩,(Lib.cut s.data.toList [58]).2.2,rfl,?_,?_⟩
    · exact Nat.le_trans (cut_len s.data.toList 58).1 hs
    · exact Nat.le_trans (cut_len s.data.toList 58).2 hs
  have HC : Hid (Lib.cut s.data.toList [58] = (l1.data.toList,l2.data.toList,b)) := hc
  clear hc
  have Hb0 : Hid (∀ o,Below w.heap.size w (w.alloc o)) := below0 w
  go_enter Tryz.func83,Tryz.ntmps83
  go_wp2_with (go_at_call 58; refine (cut_any s hs 58 l1 l2 b HC.out _ (Hh.out.up (Hb0.out _))).mono ?_; rintro e w1 ⟨rfl,hb1⟩; obtain ⟨k1,h1,hz1⟩ := made hb1; have HB1 := hidMk h1; have K1 := hidMk k1; clear h1 k1; clear hb1)
  refine (readNumber_any l1 hs1 w1 (Hh.out.up HB1.out)).mono ?_
  rintro e w2 ⟨hb2,v,b1,rfl,hr1⟩
  have HR1 := hidMk hr1
  clear hr1
  have hz2 : w1.heap.size ≤ w2.heap.size := hb2.size
  have HB2 := hidMk (HB1.out.trans (hb2.mono (by omega)))
  have K2 := hidMk (K1.out.below hb2 hz1)
  clear hb2
  go_wp2_with fail
  refine (readNumber_any l2 hs2 w2 (Hh.out.up HB2.out)).mono ?_
  rintro e w3 ⟨hb3,u,b2,rfl,hr2⟩
  have HR2 := hidMk hr2
  clear hr2
  have hz3 : w2.heap.size ≤ w3.heap.size := hb3.size
  have HB3 := hidMk (HB2.out.trans (hb3.mono (by omega)))
  have K3 := hidMk (K2.out.below hb3 (by omega))
  clear hb3
  have o0 := K3.out.at_ 0 _ rfl
  have o1 := K3.out.at_ 1 _ rfl
  have f0 := K3.out.free 0
  have f1 := K3.out.free 1
  clear K1 K2 HB1 HB2
  go_wp2
  · rename_i h1 h2
    refine bodyPost_ret (v := .tuple #[.agg #[.int .i64 v,.int .i64 u],.bool b2]) (by simp [results,Tryz.results83,go_sem,o0,o1]) rfl ⟨(HB3.out.setCell (by simp) _).setCell (by simp) _,v,u,_,rfl,?_⟩
    have := span_end HC.out HR1.out HR2.out
    rw [h1,h2,Bool.and_self,Bool.true_and] at this
    exact this
  · rename_i h1 h2
    refine bodyPost_ret (v := .tuple #[.agg #[.int .i64 v,.int .i64 u],.bool false]) (by simp [results,Tryz.results83,go_sem,o0,o1]) rfl ⟨(HB3.out.setCell (by simp) _).setCell (by simp) _,v,u,_,rfl,?_⟩
    have := span_end HC.out HR1.out HR2.out
    rw [h1,Bool.eq_false_iff.2 h2,Bool.and_false,Bool.false_and] at this
    exact this
  · rename_i h1
    refine bodyPost_ret (v := .tuple #[.agg #[.int .i64 v,.int .i64 u],.bool false]) (by simp [results,Tryz.results83,go_sem,o0,o1]) rfl ⟨(HB3.out.setCell (by simp) _).setCell (by simp) _,v,u,_,rfl,?_⟩
    have := span_end HC.out HR1.out HR2.out
    rw [Bool.eq_false_iff.2 h1,Bool.false_and,Bool.false_and] at this
    exact this
end Go.Proofs.YtljefjngmembkaaGreatDoor
/- Lines: lineOf. -/
namespace Go.Proofs.YtljefjngmembkaaGreatDoor
set_option linter.all false
open Go.RowKit
/-- A slice at a reads as the list of texts l. -/
def Ss (w : World) (B : Nat) (bk o : Nat) (l : List ByteArray) : Prop :=
  bk < B ∧ ∀ k x,l[k]? = some x → w.cell? ⟨bk,o + k,none⟩ = some (.string x)
/-- The line of these parts. -/
def lineB (l : List ByteArray) : ByteArray := ⟨(Lib.join (l.map (·.data.toList)) [32]).toArray⟩ ++ ⟨#[10]⟩
set_option maxHeartbeats 1000000 in
theorem lineOf_any (bk o c : Nat) (l : List ByteArray) (w : World) (h : Ss w w.heap.size bk o l) (hN : l.length ≤ 100000) (hc : l.length ≤ c) (hlen : (Lib.join (l.map (·.data.toList)) [32]).length ≤ 1000000) :
    Calls Tryz.prog 29 #[.slice (some ⟨bk,o,none⟩) l.length c] w fun e w' => e = .returned (.string (lineB l)) ∧ Below w.heap.size w w' := by
  obtain ⟨n,hn⟩ : ∃ n,n = l.length := ⟨_,rfl⟩
  obtain ⟨T,hT⟩ : ∃ T : ByteArray,T = ⟨(Lib.join (l.map (·.data.toList)) [32]).toArray⟩ := ⟨_,rfl⟩
  have HJ : Hid (Calls Tryz.prog 52 #[.slice (some ⟨bk,o,none⟩) n c,.string ⟨#[32]⟩] w fun e w' => e = .returned (.string T) ∧ Below w.heap.size w w') := by
    have := Tryz.strings_Join bk o c l ⟨#[32]⟩ w h.2 h.1 (by omega) hc (by have e : (⟨#[32]⟩ : ByteArray).data.toList = [32] := rfl; rw [e]; omega)
    rw [hn,hT]
    exact this
  have HL : Hid (lineB l = T ++ ⟨#[10]⟩) := by rw [hT]; rfl
  rw [HL.out,← hn]
  have hTs : T.size ≤ 1000000 := by rw [hT]; exact hlen
  clear hT hn h
  go_enter Tryz.func29,Tryz.ntmps29
  go_wp2_with (go_at_call 52; refine HJ.out.mono ?_; rintro e w1 ⟨rfl,hb1⟩)
  go_ret
  exact ⟨rfl,hb1⟩
end Go.Proofs.YtljefjngmembkaaGreatDoor
/- Contracts of the leaves of package reed. -/
namespace Go.Proofs.YtljefjngmembkaaGreatDoor
set_option linter.all false
open Go.RowKit

theorem szJob : (Tryz.prog.info? 30).map (·.size) = some 18 := by kernel_rfl
theorem szRange : (Tryz.prog.info? 23).map (·.size) = some 2 := by kernel_rfl
theorem oneJob (K : Jb) (a : Option Addr) (n c : Nat) : (jobC K (.slice a n c)).all (·.oneCell') = true := by simp [jobC,Value.oneCell']
theorem checkNumber_any (n lo hi : Int) (w : World) :
    Calls Tryz.prog 51 #[.int .i64 n,.int .i64 lo,.int .i64 hi] w fun e w' => e = .returned (.int .i64 (numE n lo hi)) ∧ w = w' := by
  by_cases h1 : n < lo
  · have H : Hid (numE n lo hi = 1) := by show numE n lo hi = 1; simp [numE,h1]
    go_enter Tryz.func51,Tryz.ntmps51
    go_wp2
    go_ret
    exact ⟨by rw [H.out]; rfl,rfl⟩
  · by_cases h2 : hi < n
    · have H : Hid (numE n lo hi = 1) := by show numE n lo hi = 1; simp [numE,h2]
      go_enter Tryz.func51,Tryz.ntmps51
      go_wp2
      go_ret
      exact ⟨by rw [H.out]; rfl,rfl⟩
    · have H : Hid (numE n lo hi = 0) := by show numE n lo hi = 0; simp [numE,h1,h2]
      go_enter Tryz.func51,Tryz.ntmps51
      go_wp2
      go_ret
      exact ⟨by rw [H.out]; rfl,rfl⟩

theorem empty_any (a b : Int) (w : World) :
    Calls Tryz.prog 41 #[.agg #[.int .i64 a,.int .i64 b]] w fun e w' => e = .returned (.bool (decide (b < a))) ∧ w.alloc (.cells #[.int .i64 a,.int .i64 b] 23) = w' := by
  go_enter Tryz.func41,Tryz.ntmps41
  go_wp2
  go_ret
  exact ⟨rfl,rfl⟩

end Go.Proofs.YtljefjngmembkaaGreatDoor
/- Drawn regions gone through by hand. -/
namespace Go.Proofs.YtljefjngmembkaaGreatDoor
set_option linter.all false
open Go.RowKit

theorem region_via {P : Program} {id : Nat} {ops : Array Oper} {b : Bool} {Q : Exit → Act → World → Prop} {a : Act} {w : World} (R : Act → Exit → Act → World → Prop) (h : (Code.region id ops b).wp P (R a) a w) (hR : ∀ e a' w',R a e a' w' → Q e a' w') : (Code.region id ops b).wp P Q a w :=
  Code.wp_mono hR h
end Go.Proofs.YtljefjngmembkaaGreatDoor
/- Ranges as they are written: span. -/
namespace Go.Proofs.YtljefjngmembkaaGreatDoor
set_option linter.all false
open Go.RowKit
def XS (w w' : World) (cs : Array Value) : Prop := Below w.heap.size w w' ∧ Bk w' w.heap.size 23 cs
theorem XS.drew {w w' : World} {cs : Array Value} (h : XS w w' cs) : XS w w'.drew cs := ⟨h.1.drew,h.2.drew⟩
theorem XS.next {w w' w'' : World} {cs : Array Value} (h : XS w w' cs) (hb : Below w'.heap.size w' w'') : XS w w'' cs := ⟨h.1.trans (hb.mono h.1.size),h.2.below hb h.2.lt⟩
theorem XS.new (w : World) (cs : Array Value) : XS w (w.alloc (.cells cs 23)) cs := ⟨below0 w _,Bk.new w _ cs⟩
def In64 (n : Int) : Prop := -1000000 ≤ n ∧ n ≤ 1000000
set_option maxHeartbeats 2000000 in
set_option maxRecDepth 100000 in
theorem span_any (a b : Int) (ha : In64 a) (hb : In64 b) (A B : ByteArray) (hA : (⟨(Lib.itoa a).toArray⟩ : ByteArray) = A) (hB : (⟨(Lib.itoa b).toArray⟩ : ByteArray) = B) (hs : A.size ≤ 100 ∧ B.size ≤ 100) (w : World) (h : LibW w) :
    Calls Tryz.prog 30 #[.agg #[.int .i64 a,.int .i64 b]] w fun e w' => e = .returned (.string (A ++ ⟨#[58]⟩ ++ B)) ∧ Below w.heap.size w w' := by
  have HA : Hid (∀ w',LibW w' → Calls Tryz.prog 31 #[.int .i64 a] w' fun e w'' => e = .returned (.string A) ∧ Below w'.heap.size w' w'') := fun w' hl => itoa_any a ⟨by have := ha.1; omega,by have := ha.2; omega⟩ A hA w' hl
  have HB : Hid (∀ w',LibW w' → Calls Tryz.prog 31 #[.int .i64 b] w' fun e w'' => e = .returned (.string B) ∧ Below w'.heap.size w' w'') := fun w' hl => itoa_any b ⟨by have := hb.1; omega,by have := hb.2; omega⟩ B hB w' hl
  have Hh : Hid (LibW w) := h
  clear hA hB ha hb h
  obtain ⟨hs1,hs2⟩ := hs
  have hS := XS.new w #[.int .i64 a,.int .i64 b]
  go_enter Tryz.func30,Tryz.ntmps30
  go_wp2_with fail
  refine region_via (R := fun a_ e a' w' => e = .normal ∧ ∃ (v3 v4 v5 v6 v7 v8 v9 v10 : Value),a' = (((((((((a_.put (some 3) v3).put (some 4) v4).put (some 5) v5).put (some 6) v6).put (some 7) v7).put (some 8) v8).put (some 9) v9).put (some 10) v10).put (some 2) (.string (A ++ ⟨#[58]⟩ ++ B))) ∧ XS w w' #[.int .i64 a,.int .i64 b]) ?_ ?_
  rotate_left
  · rintro e a' w' ⟨rfl,v3,v4,v5,v6,v7,v8,v9,v10,rfl,hs'⟩
    simp only [Act.put,aT,aZ,aS]
    have HS' := hidMk hs'
    clear hS hs'
    go_wp2_with fail
    go_ret
    exact ⟨rfl,HS'.out.1⟩
  refine wp_region_held_drew (S := fun w' => XS w w' #[.int .i64 a,.int .i64 b]) (by kernel_rfl) hS.drew (fun hS0 => ?_)
  generalize hWd : World.drew (w.alloc _) = wd at hS0 ⊢
  clear hWd hS
  refine wpAnyH_take (i := 0) (v := ?_) rfl (by kernel_rfl) (by kernel_rfl) (by kernel_rfl) (fun _ _ _ h => by cases h.1) (.inl ⟨by rfl,?_⟩) (by assumption) ?_
  rotate_left
  · (intro w' hSw; (try dsimp only at hSw); skip; go_simp <;> with_reducible rfl)
  (try simp only [Act.put,aT,aZ,aS])
  refine wpAnyH_take (i := 1) (v := ?_) rfl (by kernel_rfl) (by kernel_rfl) (by kernel_rfl) (fun _ _ _ h => by cases h.1) (.inl ⟨by rfl,?_⟩) (by assumption) ?_
  rotate_left
  · (intro w' hSw; (try dsimp only at hSw); have j0 := hSw.2.at_ 0 (.int .i64 a) rfl; go_simp <;> with_reducible rfl)
  (try simp only [Act.put,aT,aZ,aS])
  refine wpAnyH_take (i := 4) (v := ?_) rfl (by kernel_rfl) (by kernel_rfl) (by kernel_rfl) (fun _ _ _ h => by cases h.1) (.inl ⟨by rfl,?_⟩) (by assumption) ?_
  rotate_left
  · (intro w' hSw; (try dsimp only at hSw); skip; go_simp <;> with_reducible rfl)
  (try simp only [Act.put,aT,aZ,aS])
  refine wpAnyH_take (i := 5) (v := ?_) rfl (by kernel_rfl) (by kernel_rfl) (by kernel_rfl) (fun _ _ _ h => by cases h.1) (.inl ⟨by rfl,?_⟩) (by assumption) ?_
  rotate_left
  · (intro w' hSw; (try dsimp only at hSw); have j1 := hSw.2.at_ 1 (.int .i64 b) rfl; go_simp <;> with_reducible rfl)
  (try simp only [Act.put,aT,aZ,aS])
  refine wpAnyH_ready (rs := [2]) (by kernel_rfl) (by simp) ?_
  refine AllReadyH.cons rfl (fun K hK => ?_) ?_
  · go_simp
    go_at_call 31
    refine (HA.out _ (Hh.out.up hS0.1)).mono ?_
    rintro e w2 ⟨rfl,hb2⟩
    go_wp2_with fail
    have hS2 : XS w w2 #[.int .i64 a,.int .i64 b] := hS0.next hb2
    clear hb2
    refine hK.out _ _ hS2 (fun _ => ?_)
    clear hK K
    (try simp only [Act.put,aT,aZ,aS])
    refine wpAnyH_take (i := 3) (v := ?_) rfl (by kernel_rfl) (by kernel_rfl) (by kernel_rfl) (fun _ _ _ h => by cases h.1) (.inl ⟨by rfl,?_⟩) (by assumption) ?_
    rotate_left
    · (intro w' hSw; (try dsimp only at hSw); have z1 : ¬ 9223372036854775807 < A.size + 1 := (by omega); go_simp <;> with_reducible rfl)
    (try simp only [Act.put,aT,aZ,aS])
    refine wpAnyH_ready (rs := [6]) (by kernel_rfl) (by simp) ?_
    refine AllReadyH.cons rfl (fun K hK => ?_) ?_
    · go_simp
      go_at_call 31
      refine (HB.out _ (Hh.out.up hS2.1)).mono ?_
      rintro e w3 ⟨rfl,hb2⟩
      go_wp2_with fail
      have hS3 : XS w w3 #[.int .i64 a,.int .i64 b] := hS2.next hb2
      clear hb2
      refine hK.out _ _ hS3 (fun _ => ?_)
      clear hK K
      (try simp only [Act.put,aT,aZ,aS])
      refine wpAnyH_take (i := 7) (v := ?_) rfl (by kernel_rfl) (by kernel_rfl) (by kernel_rfl) (fun _ _ _ h => by cases h.1) (.inl ⟨by rfl,?_⟩) (by assumption) ?_
      rotate_left
      · (intro w' hSw; (try dsimp only at hSw); have z2 : ¬ 9223372036854775807 < A.size + 1 + B.size := (by omega); go_simp <;> with_reducible rfl)
      (try simp only [Act.put,aT,aZ,aS])
      refine wpAnyH_ready (rs := [8]) (by kernel_rfl) (by simp) ?_
      refine AllReadyH.cons rfl (fun K hK => ?_) ?_
      · go_simp
        refine hK.out _ _ hS3 (fun _ => ?_)
        clear hK K
        (try simp only [Act.put,aT,aZ,aS])
        refine wpAnyH_done (by kernel_rfl) ?_ _
        exact ⟨rfl,_,_,_,_,_,_,_,_,rfl,hS3⟩
      exact AllReadyH.nil
    exact AllReadyH.nil
  exact AllReadyH.nil
end Go.Proofs.YtljefjngmembkaaGreatDoor
/- Write: its lines. -/
namespace Go.Proofs.YtljefjngmembkaaGreatDoor
set_option linter.all false
open Go.RowKit
/-- What lies about while a job is written. -/
def WS (w0 w : World) (g : Nat) (cs : Array Value) : Prop := Below w0.heap.size w0 w ∧ Bk w g 30 cs
theorem WS.drew {w0 w : World} {g : Nat} {cs : Array Value} (h : WS w0 w g cs) : WS w0 w.drew g cs := ⟨h.1.drew,h.2.drew⟩
theorem WS.next {w0 w w' : World} {g : Nat} {cs : Array Value} (h : WS w0 w g cs) (hb : Below w.heap.size w w') : WS w0 w' g cs := ⟨h.1.trans (hb.mono h.1.size),h.2.below hb h.2.lt⟩
def SpOK (a b : Int) (T : ByteArray) : Prop := ∀ w',LibW w' → Calls Tryz.prog 30 #[.agg #[.int .i64 a,.int .i64 b]] w' fun e w'' => e = .returned (.string T) ∧ Below w'.heap.size w' w''
def ItOK (a : Int) (T : ByteArray) : Prop := ∀ w',LibW w' → Calls Tryz.prog 31 #[.int .i64 a] w' fun e w'' => e = .returned (.string T) ∧ Below w'.heap.size w' w''
def LnOK (l : List ByteArray) (T : ByteArray) : Prop := ∀ (w' : World) (g : Nat),Bk w' g 9 (l.map Value.string).toArray → Calls Tryz.prog 29 #[.slice (some ⟨g,0,none⟩) l.length l.length] w' fun e w'' => e = .returned (.string T) ∧ Below w'.heap.size w' w''
theorem lnOK (l : List ByteArray) (hN : l.length ≤ 100000) (hlen : (Lib.join (l.map (·.data.toList)) [32]).length ≤ 1000000) : LnOK l (lineB l) := fun w' g hB =>
  lineOf_any g 0 l.length l w' ⟨hB.lt,fun k x hk => by rw [Nat.zero_add]; exact hB.at_ k _ (by simp [hk])⟩ hN (Nat.le_refl _) hlen
set_option maxHeartbeats 2000000 in
set_option maxRecDepth 100000 in
theorem wr4 {w0 w : World} {g : Nat} {J : Jb} {s : Value} {Q : Exit → Act → World → Prop} {u0 u2 u3 u4 u5 u6 u7 u8 u9 u10 u11 u12 u13 u14 u15 u16 u17 u18 u19 u20 u21 u22 u23 u24 u25 u26 u27 u28 u29 u30 u31 u32 u33 u34 u35 u36 u37 u38 u39 u40 u41 u42 u43 u44 u45 u46 u47 u48 u49 u50 u51 u52 u53 u54 u55 u56 u57 u58 u59 u60 u61 u62 u63 u64 u65 u66 u67 u68 u69 u70 u71 u72 u73 u74 : Value} (hl : LibW w0) (hs : WS w0 w g (jobC J s)) {T1 T2 T3 T : ByteArray} (H1 : Hid (SpOK J.p1 J.p2 T1)) (H2 : Hid (SpOK J.t1 J.t2 T2)) (H3 : Hid (SpOK J.r1 J.r2 T3)) (HL : Hid (LnOK [⟨#[116,111,110,103,117,101]⟩,T1,T2,T3] T)) (hK : ∀ w' : World,WS w0 w' g (jobC J s) → ∀ (v13 v14 v15 v16 v17 v18 v19 v20 v21 v22 v23 v24 v25 v26 : Value),Q .normal ⟨#[u0,(.pointer (some ⟨g,0,none⟩)),u2,u3,u4,(.string T),u6,u7,u8,u9,u10,u11,u12,v13,v14,v15,v16,v17,v18,v19,v20,v21,v22,v23,v24,v25,v26,u27,u28,u29,u30,u31,u32,u33,u34,u35,u36,u37,u38,u39,u40,u41,u42,u43,u44,u45,u46,u47,u48,u49,u50,u51,u52,u53,u54,u55,u56,u57,u58,u59,u60,u61,u62,u63,u64,u65,u66,u67,u68,u69,u70,u71,u72,u73,u74],[]⟩ w') : Code.wp Tryz.prog (Code.region 4 #[⟨some 13,.fieldAddr 30 (.tmp 1) 0,0,"text.go:26",#[],none⟩,⟨some 14,.fieldAddr 25 (.tmp 13) 0,0,"text.go:26",#[⟨0,.data⟩],none⟩,⟨some 15,.load 23 (.tmp 14),23,"text.go:26",#[⟨1,.data⟩],none⟩,⟨some 16,.call { callee := .value (.func 30),args := #[.tmp 15],argTypes := #[23] },9,"text.go:26",#[⟨2,.data⟩],none⟩,⟨some 17,.fieldAddr 30 (.tmp 1) 0,0,"text.go:26",#[],none⟩,⟨some 18,.fieldAddr 25 (.tmp 17) 1,0,"text.go:26",#[⟨4,.data⟩],none⟩,⟨some 19,.load 23 (.tmp 18),23,"text.go:26",#[⟨5,.data⟩],none⟩,⟨some 20,.call { callee := .value (.func 30),args := #[.tmp 19],argTypes := #[23] },9,"text.go:26",#[⟨6,.data⟩,⟨3,.chain⟩],none⟩,⟨some 21,.fieldAddr 30 (.tmp 1) 0,0,"text.go:26",#[],none⟩,⟨some 22,.fieldAddr 25 (.tmp 21) 2,0,"text.go:26",#[⟨8,.data⟩],none⟩,⟨some 23,.load 23 (.tmp 22),23,"text.go:26",#[⟨9,.data⟩],none⟩,⟨some 24,.call { callee := .value (.func 30),args := #[.tmp 23],argTypes := #[23] },9,"text.go:26",#[⟨10,.data⟩,⟨7,.chain⟩],none⟩,⟨some 25,.buildSlice 37 4 #[(0,.const (.string { data := #[116,111,110,103,117,101] })),(1,.tmp 16),(2,.tmp 20),(3,.tmp 24)],37,"text.go:26",#[⟨3,.data⟩,⟨7,.data⟩,⟨11,.data⟩],none⟩,⟨some 26,.call { callee := .value (.func 29),args := #[.tmp 25],argTypes := #[37] },9,"text.go:26",#[⟨12,.data⟩,⟨11,.chain⟩],none⟩,⟨some 5,.assign (.tmp 26),9,"text.go:26",#[⟨13,.data⟩,⟨13,.chain⟩,⟨0,.phase⟩,⟨1,.phase⟩,⟨2,.phase⟩,⟨3,.phase⟩,⟨4,.phase⟩,⟨5,.phase⟩,⟨6,.phase⟩,⟨7,.phase⟩,⟨8,.phase⟩,⟨9,.phase⟩,⟨10,.phase⟩,⟨11,.phase⟩,⟨12,.phase⟩,⟨13,.phase⟩],none⟩] true) Q ⟨#[u0,(.pointer (some ⟨g,0,none⟩)),u2,u3,u4,u5,u6,u7,u8,u9,u10,u11,u12,u13,u14,u15,u16,u17,u18,u19,u20,u21,u22,u23,u24,u25,u26,u27,u28,u29,u30,u31,u32,u33,u34,u35,u36,u37,u38,u39,u40,u41,u42,u43,u44,u45,u46,u47,u48,u49,u50,u51,u52,u53,u54,u55,u56,u57,u58,u59,u60,u61,u62,u63,u64,u65,u66,u67,u68,u69,u70,u71,u72,u73,u74],[]⟩ w := by
  have Hh := hidMk hl
  have HK := hidMk hK
  clear hl hK
  refine region_via (R := fun a_ e_ a' w' => e_ = .normal ∧ ∃ (v13 v14 v15 v16 v17 v18 v19 v20 v21 v22 v23 v24 v25 v26 : Value),a' = (((((((((((((((a_.put (some 13) v13).put (some 14) v14).put (some 15) v15).put (some 16) v16).put (some 17) v17).put (some 18) v18).put (some 19) v19).put (some 20) v20).put (some 21) v21).put (some 22) v22).put (some 23) v23).put (some 24) v24).put (some 25) v25).put (some 26) v26).put (some 5) (.string T)) ∧ WS w0 w' g (jobC J s)) ?_ ?_
  rotate_left
  · rintro e_ a' w' ⟨rfl,v13,v14,v15,v16,v17,v18,v19,v20,v21,v22,v23,v24,v25,v26,rfl,h1⟩
    simp only [Act.put,aT,aZ,aS]
    exact HK.out _ h1 _ _ _ _ _ _ _ _ _ _ _ _ _ _ 
  have hS := hs.drew
  clear hs
  refine wp_region_held_drew (S := fun w' => WS w0 w' g (jobC J s)) (by kernel_rfl) hS (fun hS0 => ?_)
  clear hS0
  generalize w.drew = w1 at hS ⊢
  refine wpAnyH_take (i := 0) (v := ?_) rfl (by kernel_rfl) (by kernel_rfl) (by kernel_rfl) (fun _ _ _ h => by cases h.1) (.inl ⟨by rfl,?_⟩) (by assumption) ?_
  rotate_left
  · (intro w' hSw; (try dsimp only at hSw); skip; go_simp <;> with_reducible rfl)
  (try simp only [Act.put,aT,aZ,aS])
  refine wpAnyH_take (i := 1) (v := ?_) rfl (by kernel_rfl) (by kernel_rfl) (by kernel_rfl) (fun _ _ _ h => by cases h.1) (.inl ⟨by rfl,?_⟩) (by assumption) ?_
  rotate_left
  · (intro w' hSw; (try dsimp only at hSw); skip; go_simp <;> with_reducible rfl)
  (try simp only [Act.put,aT,aZ,aS])
  refine wpAnyH_take (i := 2) (v := ?_) rfl (by kernel_rfl) (by kernel_rfl) (by kernel_rfl) (fun _ _ _ h => by cases h.1) (.inl ⟨by rfl,?_⟩) (by assumption) ?_
  rotate_left
  · (intro w' hSw; (try dsimp only at hSw); (have j0 := hSw.2.at_ 0 (.int .i64 J.p1) rfl; have j1 := hSw.2.at_ 1 (.int .i64 J.p2) rfl); go_simp <;> with_reducible rfl)
  (try simp only [Act.put,aT,aZ,aS])
  refine wpAnyH_take (i := 4) (v := ?_) rfl (by kernel_rfl) (by kernel_rfl) (by kernel_rfl) (fun _ _ _ h => by cases h.1) (.inl ⟨by rfl,?_⟩) (by assumption) ?_
  rotate_left
  · (intro w' hSw; (try dsimp only at hSw); skip; go_simp <;> with_reducible rfl)
  (try simp only [Act.put,aT,aZ,aS])
  refine wpAnyH_take (i := 5) (v := ?_) rfl (by kernel_rfl) (by kernel_rfl) (by kernel_rfl) (fun _ _ _ h => by cases h.1) (.inl ⟨by rfl,?_⟩) (by assumption) ?_
  rotate_left
  · (intro w' hSw; (try dsimp only at hSw); skip; go_simp <;> with_reducible rfl)
  (try simp only [Act.put,aT,aZ,aS])
  refine wpAnyH_take (i := 6) (v := ?_) rfl (by kernel_rfl) (by kernel_rfl) (by kernel_rfl) (fun _ _ _ h => by cases h.1) (.inl ⟨by rfl,?_⟩) (by assumption) ?_
  rotate_left
  · (intro w' hSw; (try dsimp only at hSw); (have j0 := hSw.2.at_ 2 (.int .i64 J.t1) rfl; have j1 := hSw.2.at_ 3 (.int .i64 J.t2) rfl); go_simp <;> with_reducible rfl)
  (try simp only [Act.put,aT,aZ,aS])
  refine wpAnyH_take (i := 8) (v := ?_) rfl (by kernel_rfl) (by kernel_rfl) (by kernel_rfl) (fun _ _ _ h => by cases h.1) (.inl ⟨by rfl,?_⟩) (by assumption) ?_
  rotate_left
  · (intro w' hSw; (try dsimp only at hSw); skip; go_simp <;> with_reducible rfl)
  (try simp only [Act.put,aT,aZ,aS])
  refine wpAnyH_take (i := 9) (v := ?_) rfl (by kernel_rfl) (by kernel_rfl) (by kernel_rfl) (fun _ _ _ h => by cases h.1) (.inl ⟨by rfl,?_⟩) (by assumption) ?_
  rotate_left
  · (intro w' hSw; (try dsimp only at hSw); skip; go_simp <;> with_reducible rfl)
  (try simp only [Act.put,aT,aZ,aS])
  refine wpAnyH_take (i := 10) (v := ?_) rfl (by kernel_rfl) (by kernel_rfl) (by kernel_rfl) (fun _ _ _ h => by cases h.1) (.inl ⟨by rfl,?_⟩) (by assumption) ?_
  rotate_left
  · (intro w' hSw; (try dsimp only at hSw); (have j0 := hSw.2.at_ 4 (.int .i64 J.r1) rfl; have j1 := hSw.2.at_ 5 (.int .i64 J.r2) rfl); go_simp <;> with_reducible rfl)
  (try simp only [Act.put,aT,aZ,aS])
  refine wpAnyH_ready (rs := [3]) (by kernel_rfl) (by simp) ?_
  refine AllReadyH.cons rfl (fun K hK => ?_) ?_
  · go_simp
    go_at_call 30
    refine (H1.out _ (Hh.out.keep hS.1 Hh.out.room)).mono ?_
    rintro e w2 ⟨rfl,hb2⟩
    go_wp2_with fail
    have hS_ := hS.next hb2
    clear hb2 hS
    refine hK.out _ _ hS_ (fun _ => ?_)
    have hS := hS_
    clear hS_
    clear hK K
    (try simp only [Act.put,aT,aZ,aS])
    refine wpAnyH_ready (rs := [7]) (by kernel_rfl) (by simp) ?_
    refine AllReadyH.cons rfl (fun K hK => ?_) ?_
    · go_simp
      go_at_call 30
      refine (H2.out _ (Hh.out.keep hS.1 Hh.out.room)).mono ?_
      rintro e w3 ⟨rfl,hb2⟩
      go_wp2_with fail
      have hS_ := hS.next hb2
      clear hb2 hS
      refine hK.out _ _ hS_ (fun _ => ?_)
      have hS := hS_
      clear hS_
      clear hK K
      (try simp only [Act.put,aT,aZ,aS])
      refine wpAnyH_ready (rs := [11]) (by kernel_rfl) (by simp) ?_
      refine AllReadyH.cons rfl (fun K hK => ?_) ?_
      · go_simp
        go_at_call 30
        refine (H3.out _ (Hh.out.keep hS.1 Hh.out.room)).mono ?_
        rintro e w4 ⟨rfl,hb2⟩
        go_wp2_with fail
        have hS_ := hS.next hb2
        clear hb2 hS
        refine hK.out _ _ hS_ (fun _ => ?_)
        have hS := hS_
        clear hS_
        clear hK K
        (try simp only [Act.put,aT,aZ,aS])
        refine wpAnyH_ready (rs := [12]) (by kernel_rfl) (by simp) ?_
        refine AllReadyH.cons rfl (fun K hK => ?_) ?_
        · have al_ : Below w4.heap.size w4 (w4.alloc (.cells #[.string ⟨#[116,111,110,103,117,101]⟩,.string T1,.string T2,.string T3] 9)) := (Below.refl _ _).alloc (Nat.le_refl _) _
          have hB : Bk (w4.alloc (.cells #[.string ⟨#[116,111,110,103,117,101]⟩,.string T1,.string T2,.string T3] 9)) w4.heap.size 9 #[.string ⟨#[116,111,110,103,117,101]⟩,.string T1,.string T2,.string T3] := Bk.new _ _ _
          have hS_ := hS.next al_
          go_simp
          show K _ (w4.alloc (.cells #[.string ⟨#[116,111,110,103,117,101]⟩,.string T1,.string T2,.string T3] 9))
          refine hK.out _ _ hS_ (fun _ => ?_)
          clear hS al_
          have hS := hS_
          clear hS_
          generalize w4.heap.size = g_ at hB ⊢
          generalize (w4.alloc (.cells #[.string ⟨#[116,111,110,103,117,101]⟩,.string T1,.string T2,.string T3] 9)) = w5 at hB hS ⊢
          clear hK K
          (try simp only [Act.put,aT,aZ,aS])
          refine wpAnyH_ready (rs := [13]) (by kernel_rfl) (by simp) ?_
          refine AllReadyH.cons rfl (fun K hK => ?_) ?_
          · go_simp
            go_at_call 29
            refine (HL.out _ g_ hB).mono ?_
            rintro e w6 ⟨rfl,hb2⟩
            go_wp2_with fail
            have hS_ := hS.next hb2
            clear hb2 hS hB
            refine hK.out _ _ hS_ (fun _ => ?_)
            have hS := hS_
            clear hS_
            clear hK K
            (try simp only [Act.put,aT,aZ,aS])
            refine wpAnyH_ready (rs := [14]) (by kernel_rfl) (by simp) ?_
            refine AllReadyH.cons rfl (fun K hK => ?_) ?_
            · go_simp
              refine hK.out _ _ hS (fun _ => ?_)
              clear hK K
              (try simp only [Act.put,aT,aZ,aS])
              refine wpAnyH_done (by kernel_rfl) ?_ _
              exact ⟨rfl,_,_,_,_,_,_,_,_,_,_,_,_,_,_,rfl,hS⟩
            exact AllReadyH.nil
          exact AllReadyH.nil
        exact AllReadyH.nil
      exact AllReadyH.nil
    exact AllReadyH.nil
  exact AllReadyH.nil
set_option maxHeartbeats 2000000 in
set_option maxRecDepth 100000 in
theorem wr5 {w0 w : World} {g : Nat} {J : Jb} {s : Value} {Q : Exit → Act → World → Prop} {u0 u2 u3 u4 u6 u7 u8 u9 u10 u11 u12 u13 u14 u15 u16 u17 u18 u19 u20 u21 u22 u23 u24 u25 u26 u27 u28 u29 u30 u31 u32 u33 u34 u35 u36 u37 u38 u39 u40 u41 u42 u43 u44 u45 u46 u47 u48 u49 u50 u51 u52 u53 u54 u55 u56 u57 u58 u59 u60 u61 u62 u63 u64 u65 u66 u67 u68 u69 u70 u71 u72 u73 u74 : Value} (hl : LibW w0) (hs : WS w0 w g (jobC J s)) {T0 T1 T2 T3 T4 T5 T : ByteArray} (H1 : Hid (SpOK J.u1 J.u2 T1)) (H2 : Hid (SpOK J.d1 J.d2 T2)) (H3 : Hid (SpOK J.x1 J.x2 T3)) (H4 : Hid (SpOK J.y1 J.y2 T4)) (H5 : Hid (ItOK J.le T5)) (HL : Hid (LnOK [⟨#[102,105,108,101]⟩,T1,T2,T3,T4,T5] T)) (hz : T0.size ≤ 1000000 ∧ T.size ≤ 1000000) (hK : ∀ w' : World,WS w0 w' g (jobC J s) → ∀ (v27 v28 v29 v30 v31 v32 v33 v34 v35 v36 v37 v38 v39 v40 v41 v42 v43 v44 v45 v46 v47 v48 v49 v50 : Value),Q .normal ⟨#[u0,(.pointer (some ⟨g,0,none⟩)),u2,u3,u4,(.string (T0 ++ T)),u6,u7,u8,u9,u10,u11,u12,u13,u14,u15,u16,u17,u18,u19,u20,u21,u22,u23,u24,u25,u26,v27,v28,v29,v30,v31,v32,v33,v34,v35,v36,v37,v38,v39,v40,v41,v42,v43,v44,v45,v46,v47,v48,v49,v50,u51,u52,u53,u54,u55,u56,u57,u58,u59,u60,u61,u62,u63,u64,u65,u66,u67,u68,u69,u70,u71,u72,u73,u74],[]⟩ w') : Code.wp Tryz.prog (Code.region 5 #[⟨some 27,.move (.tmp 5),9,"text.go:27",#[],none⟩,⟨some 28,.fieldAddr 30 (.tmp 1) 1,0,"text.go:27",#[],none⟩,⟨some 29,.fieldAddr 27 (.tmp 28) 0,0,"text.go:27",#[⟨1,.data⟩],none⟩,⟨some 30,.load 23 (.tmp 29),23,"text.go:27",#[⟨2,.data⟩],none⟩,⟨some 31,.call { callee := .value (.func 30),args := #[.tmp 30],argTypes := #[23] },9,"text.go:27",#[⟨3,.data⟩],none⟩,⟨some 32,.fieldAddr 30 (.tmp 1) 1,0,"text.go:27",#[],none⟩,⟨some 33,.fieldAddr 27 (.tmp 32) 1,0,"text.go:27",#[⟨5,.data⟩],none⟩,⟨some 34,.load 23 (.tmp 33),23,"text.go:27",#[⟨6,.data⟩],none⟩,⟨some 35,.call { callee := .value (.func 30),args := #[.tmp 34],argTypes := #[23] },9,"text.go:27",#[⟨7,.data⟩,⟨4,.chain⟩],none⟩,⟨some 36,.fieldAddr 30 (.tmp 1) 1,0,"text.go:27",#[],none⟩,⟨some 37,.fieldAddr 27 (.tmp 36) 2,0,"text.go:27",#[⟨9,.data⟩],none⟩,⟨some 38,.load 23 (.tmp 37),23,"text.go:27",#[⟨10,.data⟩],none⟩,⟨some 39,.call { callee := .value (.func 30),args := #[.tmp 38],argTypes := #[23] },9,"text.go:27",#[⟨11,.data⟩,⟨8,.chain⟩],none⟩,⟨some 40,.fieldAddr 30 (.tmp 1) 1,0,"text.go:27",#[],none⟩,⟨some 41,.fieldAddr 27 (.tmp 40) 3,0,"text.go:27",#[⟨13,.data⟩],none⟩,⟨some 42,.load 23 (.tmp 41),23,"text.go:27",#[⟨14,.data⟩],none⟩,⟨some 43,.call { callee := .value (.func 30),args := #[.tmp 42],argTypes := #[23] },9,"text.go:27",#[⟨15,.data⟩,⟨12,.chain⟩],none⟩,⟨some 44,.fieldAddr 30 (.tmp 1) 1,0,"text.go:27",#[],none⟩,⟨some 45,.fieldAddr 27 (.tmp 44) 4,0,"text.go:27",#[⟨17,.data⟩],none⟩,⟨some 46,.load 3 (.tmp 45),3,"text.go:27",#[⟨18,.data⟩],none⟩,⟨some 47,.call { callee := .value (.func 31),args := #[.tmp 46],argTypes := #[3] },9,"text.go:27",#[⟨19,.data⟩,⟨16,.chain⟩],none⟩,⟨some 48,.buildSlice 37 6 #[(0,.const (.string { data := #[102,105,108,101] })),(1,.tmp 31),(2,.tmp 35),(3,.tmp 39),(4,.tmp 43),(5,.tmp 47)],37,"text.go:27",#[⟨4,.data⟩,⟨8,.data⟩,⟨12,.data⟩,⟨16,.data⟩,⟨20,.data⟩],none⟩,⟨some 49,.call { callee := .value (.func 29),args := #[.tmp 48],argTypes := #[37] },9,"text.go:27",#[⟨21,.data⟩,⟨20,.chain⟩],none⟩,⟨some 50,.binOp .add 9 (.tmp 27) (.tmp 49) 9,9,"text.go:27",#[⟨0,.data⟩,⟨22,.data⟩],none⟩,⟨some 5,.assign (.tmp 50),9,"text.go:27",#[⟨23,.data⟩,⟨22,.chain⟩,⟨0,.phase⟩,⟨1,.phase⟩,⟨2,.phase⟩,⟨3,.phase⟩,⟨4,.phase⟩,⟨5,.phase⟩,⟨6,.phase⟩,⟨7,.phase⟩,⟨8,.phase⟩,⟨9,.phase⟩,⟨10,.phase⟩,⟨11,.phase⟩,⟨12,.phase⟩,⟨13,.phase⟩,⟨14,.phase⟩,⟨15,.phase⟩,⟨16,.phase⟩,⟨17,.phase⟩,⟨18,.phase⟩,⟨19,.phase⟩,⟨20,.phase⟩,⟨21,.phase⟩,⟨22,.phase⟩,⟨23,.phase⟩],none⟩] true) Q ⟨#[u0,(.pointer (some ⟨g,0,none⟩)),u2,u3,u4,(.string T0),u6,u7,u8,u9,u10,u11,u12,u13,u14,u15,u16,u17,u18,u19,u20,u21,u22,u23,u24,u25,u26,u27,u28,u29,u30,u31,u32,u33,u34,u35,u36,u37,u38,u39,u40,u41,u42,u43,u44,u45,u46,u47,u48,u49,u50,u51,u52,u53,u54,u55,u56,u57,u58,u59,u60,u61,u62,u63,u64,u65,u66,u67,u68,u69,u70,u71,u72,u73,u74],[]⟩ w := by
  have Hh := hidMk hl
  have HK := hidMk hK
  clear hl hK
  refine region_via (R := fun a_ e_ a' w' => e_ = .normal ∧ ∃ (v27 v28 v29 v30 v31 v32 v33 v34 v35 v36 v37 v38 v39 v40 v41 v42 v43 v44 v45 v46 v47 v48 v49 v50 : Value),a' = (((((((((((((((((((((((((a_.put (some 27) v27).put (some 28) v28).put (some 29) v29).put (some 30) v30).put (some 31) v31).put (some 32) v32).put (some 33) v33).put (some 34) v34).put (some 35) v35).put (some 36) v36).put (some 37) v37).put (some 38) v38).put (some 39) v39).put (some 40) v40).put (some 41) v41).put (some 42) v42).put (some 43) v43).put (some 44) v44).put (some 45) v45).put (some 46) v46).put (some 47) v47).put (some 48) v48).put (some 49) v49).put (some 50) v50).put (some 5) (.string (T0 ++ T))) ∧ WS w0 w' g (jobC J s)) ?_ ?_
  rotate_left
  · rintro e_ a' w' ⟨rfl,v27,v28,v29,v30,v31,v32,v33,v34,v35,v36,v37,v38,v39,v40,v41,v42,v43,v44,v45,v46,v47,v48,v49,v50,rfl,h1⟩
    simp only [Act.put,aT,aZ,aS]
    exact HK.out _ h1 _ _ _ _ _ _ _ _ _ _ _ _ _ _ _ _ _ _ _ _ _ _ _ _ 
  have hS := hs.drew
  clear hs
  refine wp_region_held_drew (S := fun w' => WS w0 w' g (jobC J s)) (by kernel_rfl) hS (fun hS0 => ?_)
  clear hS0
  generalize w.drew = w1 at hS ⊢
  refine wpAnyH_take (i := 0) (v := ?_) rfl (by kernel_rfl) (by kernel_rfl) (by kernel_rfl) (fun _ _ _ h => by cases h.1) (.inl ⟨by rfl,?_⟩) (by assumption) ?_
  rotate_left
  · (intro w' hSw; (try dsimp only at hSw); skip; go_simp <;> with_reducible rfl)
  (try simp only [Act.put,aT,aZ,aS])
  refine wpAnyH_take (i := 1) (v := ?_) rfl (by kernel_rfl) (by kernel_rfl) (by kernel_rfl) (fun _ _ _ h => by cases h.1) (.inl ⟨by rfl,?_⟩) (by assumption) ?_
  rotate_left
  · (intro w' hSw; (try dsimp only at hSw); skip; go_simp <;> with_reducible rfl)
  (try simp only [Act.put,aT,aZ,aS])
  refine wpAnyH_take (i := 2) (v := ?_) rfl (by kernel_rfl) (by kernel_rfl) (by kernel_rfl) (fun _ _ _ h => by cases h.1) (.inl ⟨by rfl,?_⟩) (by assumption) ?_
  rotate_left
  · (intro w' hSw; (try dsimp only at hSw); skip; go_simp <;> with_reducible rfl)
  (try simp only [Act.put,aT,aZ,aS])
  refine wpAnyH_take (i := 3) (v := ?_) rfl (by kernel_rfl) (by kernel_rfl) (by kernel_rfl) (fun _ _ _ h => by cases h.1) (.inl ⟨by rfl,?_⟩) (by assumption) ?_
  rotate_left
  · (intro w' hSw; (try dsimp only at hSw); (have j0 := hSw.2.at_ 6 (.int .i64 J.u1) rfl; have j1 := hSw.2.at_ 7 (.int .i64 J.u2) rfl); go_simp <;> with_reducible rfl)
  (try simp only [Act.put,aT,aZ,aS])
  refine wpAnyH_take (i := 5) (v := ?_) rfl (by kernel_rfl) (by kernel_rfl) (by kernel_rfl) (fun _ _ _ h => by cases h.1) (.inl ⟨by rfl,?_⟩) (by assumption) ?_
  rotate_left
  · (intro w' hSw; (try dsimp only at hSw); skip; go_simp <;> with_reducible rfl)
  (try simp only [Act.put,aT,aZ,aS])
  refine wpAnyH_take (i := 6) (v := ?_) rfl (by kernel_rfl) (by kernel_rfl) (by kernel_rfl) (fun _ _ _ h => by cases h.1) (.inl ⟨by rfl,?_⟩) (by assumption) ?_
  rotate_left
  · (intro w' hSw; (try dsimp only at hSw); skip; go_simp <;> with_reducible rfl)
  (try simp only [Act.put,aT,aZ,aS])
  refine wpAnyH_take (i := 7) (v := ?_) rfl (by kernel_rfl) (by kernel_rfl) (by kernel_rfl) (fun _ _ _ h => by cases h.1) (.inl ⟨by rfl,?_⟩) (by assumption) ?_
  rotate_left
  · (intro w' hSw; (try dsimp only at hSw); (have j0 := hSw.2.at_ 8 (.int .i64 J.d1) rfl; have j1 := hSw.2.at_ 9 (.int .i64 J.d2) rfl); go_simp <;> with_reducible rfl)
  (try simp only [Act.put,aT,aZ,aS])
  refine wpAnyH_take (i := 9) (v := ?_) rfl (by kernel_rfl) (by kernel_rfl) (by kernel_rfl) (fun _ _ _ h => by cases h.1) (.inl ⟨by rfl,?_⟩) (by assumption) ?_
  rotate_left
  · (intro w' hSw; (try dsimp only at hSw); skip; go_simp <;> with_reducible rfl)
  (try simp only [Act.put,aT,aZ,aS])
  refine wpAnyH_take (i := 10) (v := ?_) rfl (by kernel_rfl) (by kernel_rfl) (by kernel_rfl) (fun _ _ _ h => by cases h.1) (.inl ⟨by rfl,?_⟩) (by assumption) ?_
  rotate_left
  · (intro w' hSw; (try dsimp only at hSw); skip; go_simp <;> with_reducible rfl)
  (try simp only [Act.put,aT,aZ,aS])
  refine wpAnyH_take (i := 11) (v := ?_) rfl (by kernel_rfl) (by kernel_rfl) (by kernel_rfl) (fun _ _ _ h => by cases h.1) (.inl ⟨by rfl,?_⟩) (by assumption) ?_
  rotate_left
  · (intro w' hSw; (try dsimp only at hSw); (have j0 := hSw.2.at_ 10 (.int .i64 J.x1) rfl; have j1 := hSw.2.at_ 11 (.int .i64 J.x2) rfl); go_simp <;> with_reducible rfl)
  (try simp only [Act.put,aT,aZ,aS])
  refine wpAnyH_take (i := 13) (v := ?_) rfl (by kernel_rfl) (by kernel_rfl) (by kernel_rfl) (fun _ _ _ h => by cases h.1) (.inl ⟨by rfl,?_⟩) (by assumption) ?_
  rotate_left
  · (intro w' hSw; (try dsimp only at hSw); skip; go_simp <;> with_reducible rfl)
  (try simp only [Act.put,aT,aZ,aS])
  refine wpAnyH_take (i := 14) (v := ?_) rfl (by kernel_rfl) (by kernel_rfl) (by kernel_rfl) (fun _ _ _ h => by cases h.1) (.inl ⟨by rfl,?_⟩) (by assumption) ?_
  rotate_left
  · (intro w' hSw; (try dsimp only at hSw); skip; go_simp <;> with_reducible rfl)
  (try simp only [Act.put,aT,aZ,aS])
  refine wpAnyH_take (i := 15) (v := ?_) rfl (by kernel_rfl) (by kernel_rfl) (by kernel_rfl) (fun _ _ _ h => by cases h.1) (.inl ⟨by rfl,?_⟩) (by assumption) ?_
  rotate_left
  · (intro w' hSw; (try dsimp only at hSw); (have j0 := hSw.2.at_ 12 (.int .i64 J.y1) rfl; have j1 := hSw.2.at_ 13 (.int .i64 J.y2) rfl); go_simp <;> with_reducible rfl)
  (try simp only [Act.put,aT,aZ,aS])
  refine wpAnyH_take (i := 17) (v := ?_) rfl (by kernel_rfl) (by kernel_rfl) (by kernel_rfl) (fun _ _ _ h => by cases h.1) (.inl ⟨by rfl,?_⟩) (by assumption) ?_
  rotate_left
  · (intro w' hSw; (try dsimp only at hSw); skip; go_simp <;> with_reducible rfl)
  (try simp only [Act.put,aT,aZ,aS])
  refine wpAnyH_take (i := 18) (v := ?_) rfl (by kernel_rfl) (by kernel_rfl) (by kernel_rfl) (fun _ _ _ h => by cases h.1) (.inl ⟨by rfl,?_⟩) (by assumption) ?_
  rotate_left
  · (intro w' hSw; (try dsimp only at hSw); skip; go_simp <;> with_reducible rfl)
  (try simp only [Act.put,aT,aZ,aS])
  refine wpAnyH_take (i := 19) (v := ?_) rfl (by kernel_rfl) (by kernel_rfl) (by kernel_rfl) (fun _ _ _ h => by cases h.1) (.inl ⟨by rfl,?_⟩) (by assumption) ?_
  rotate_left
  · (intro w' hSw; (try dsimp only at hSw); (have j0 := hSw.2.at_ 14 (.int .i64 J.le) rfl); go_simp <;> with_reducible rfl)
  (try simp only [Act.put,aT,aZ,aS])
  refine wpAnyH_ready (rs := [4]) (by kernel_rfl) (by simp) ?_
  refine AllReadyH.cons rfl (fun K hK => ?_) ?_
  · go_simp
    go_at_call 30
    refine (H1.out _ (Hh.out.keep hS.1 Hh.out.room)).mono ?_
    rintro e w2 ⟨rfl,hb2⟩
    go_wp2_with fail
    have hS_ := hS.next hb2
    clear hb2 hS
    refine hK.out _ _ hS_ (fun _ => ?_)
    have hS := hS_
    clear hS_
    clear hK K
    (try simp only [Act.put,aT,aZ,aS])
    refine wpAnyH_ready (rs := [8]) (by kernel_rfl) (by simp) ?_
    refine AllReadyH.cons rfl (fun K hK => ?_) ?_
    · go_simp
      go_at_call 30
      refine (H2.out _ (Hh.out.keep hS.1 Hh.out.room)).mono ?_
      rintro e w3 ⟨rfl,hb2⟩
      go_wp2_with fail
      have hS_ := hS.next hb2
      clear hb2 hS
      refine hK.out _ _ hS_ (fun _ => ?_)
      have hS := hS_
      clear hS_
      clear hK K
      (try simp only [Act.put,aT,aZ,aS])
      refine wpAnyH_ready (rs := [12]) (by kernel_rfl) (by simp) ?_
      refine AllReadyH.cons rfl (fun K hK => ?_) ?_
      · go_simp
        go_at_call 30
        refine (H3.out _ (Hh.out.keep hS.1 Hh.out.room)).mono ?_
        rintro e w4 ⟨rfl,hb2⟩
        go_wp2_with fail
        have hS_ := hS.next hb2
        clear hb2 hS
        refine hK.out _ _ hS_ (fun _ => ?_)
        have hS := hS_
        clear hS_
        clear hK K
        (try simp only [Act.put,aT,aZ,aS])
        refine wpAnyH_ready (rs := [16]) (by kernel_rfl) (by simp) ?_
        refine AllReadyH.cons rfl (fun K hK => ?_) ?_
        · go_simp
          go_at_call 30
          refine (H4.out _ (Hh.out.keep hS.1 Hh.out.room)).mono ?_
          rintro e w5 ⟨rfl,hb2⟩
          go_wp2_with fail
          have hS_ := hS.next hb2
          clear hb2 hS
          refine hK.out _ _ hS_ (fun _ => ?_)
          have hS := hS_
          clear hS_
          clear hK K
          (try simp only [Act.put,aT,aZ,aS])
          refine wpAnyH_ready (rs := [20]) (by kernel_rfl) (by simp) ?_
          refine AllReadyH.cons rfl (fun K hK => ?_) ?_
          · go_simp
            go_at_call 31
            refine (H5.out _ (Hh.out.keep hS.1 Hh.out.room)).mono ?_
            rintro e w6 ⟨rfl,hb2⟩
            go_wp2_with fail
            have hS_ := hS.next hb2
            clear hb2 hS
            refine hK.out _ _ hS_ (fun _ => ?_)
            have hS := hS_
            clear hS_
            clear hK K
            (try simp only [Act.put,aT,aZ,aS])
            refine wpAnyH_ready (rs := [21]) (by kernel_rfl) (by simp) ?_
            refine AllReadyH.cons rfl (fun K hK => ?_) ?_
            · have al_ : Below w6.heap.size w6 (w6.alloc (.cells #[.string ⟨#[102,105,108,101]⟩,.string T1,.string T2,.string T3,.string T4,.string T5] 9)) := (Below.refl _ _).alloc (Nat.le_refl _) _
              have hB : Bk (w6.alloc (.cells #[.string ⟨#[102,105,108,101]⟩,.string T1,.string T2,.string T3,.string T4,.string T5] 9)) w6.heap.size 9 #[.string ⟨#[102,105,108,101]⟩,.string T1,.string T2,.string T3,.string T4,.string T5] := Bk.new _ _ _
              have hS_ := hS.next al_
              go_simp
              show K _ (w6.alloc (.cells #[.string ⟨#[102,105,108,101]⟩,.string T1,.string T2,.string T3,.string T4,.string T5] 9))
              refine hK.out _ _ hS_ (fun _ => ?_)
              clear hS al_
              have hS := hS_
              clear hS_
              generalize w6.heap.size = g_ at hB ⊢
              generalize (w6.alloc (.cells #[.string ⟨#[102,105,108,101]⟩,.string T1,.string T2,.string T3,.string T4,.string T5] 9)) = w7 at hB hS ⊢
              clear hK K
              (try simp only [Act.put,aT,aZ,aS])
              refine wpAnyH_ready (rs := [22]) (by kernel_rfl) (by simp) ?_
              refine AllReadyH.cons rfl (fun K hK => ?_) ?_
              · go_simp
                go_at_call 29
                refine (HL.out _ g_ hB).mono ?_
                rintro e w8 ⟨rfl,hb2⟩
                go_wp2_with fail
                have hS_ := hS.next hb2
                clear hb2 hS hB
                refine hK.out _ _ hS_ (fun _ => ?_)
                have hS := hS_
                clear hS_
                clear hK K
                (try simp only [Act.put,aT,aZ,aS])
                refine wpAnyH_take (i := 23) (v := ?_) rfl (by kernel_rfl) (by kernel_rfl) (by kernel_rfl) (fun _ _ _ h => by cases h.1) (.inl ⟨by rfl,?_⟩) (by assumption) ?_
                rotate_left
                · (intro w' hSw; (try dsimp only at hSw); have z1 : ¬ 9223372036854775807 < T0.size + T.size := (by omega); go_simp <;> with_reducible rfl)
                (try simp only [Act.put,aT,aZ,aS])
                refine wpAnyH_ready (rs := [24]) (by kernel_rfl) (by simp) ?_
                refine AllReadyH.cons rfl (fun K hK => ?_) ?_
                · go_simp
                  refine hK.out _ _ hS (fun _ => ?_)
                  clear hK K
                  (try simp only [Act.put,aT,aZ,aS])
                  refine wpAnyH_done (by kernel_rfl) ?_ _
                  exact ⟨rfl,_,_,_,_,_,_,_,_,_,_,_,_,_,_,_,_,_,_,_,_,_,_,_,_,rfl,hS⟩
                exact AllReadyH.nil
              exact AllReadyH.nil
            exact AllReadyH.nil
          exact AllReadyH.nil
        exact AllReadyH.nil
      exact AllReadyH.nil
    exact AllReadyH.nil
  exact AllReadyH.nil
set_option maxHeartbeats 2000000 in
set_option maxRecDepth 100000 in
theorem wr11 {w0 w : World} {g : Nat} {J : Jb} {s : Value} {Q : Exit → Act → World → Prop} {u0 u2 u3 u4 u6 u7 u8 u9 u10 u11 u12 u13 u14 u15 u16 u17 u18 u19 u20 u21 u22 u23 u24 u25 u26 u27 u28 u29 u30 u31 u32 u33 u34 u35 u36 u37 u38 u39 u40 u41 u42 u43 u44 u45 u46 u47 u48 u49 u50 u51 u52 u53 u54 u55 u56 u57 u58 u59 u60 u61 u62 u63 u64 u65 u66 u67 u68 u69 u70 u71 u72 u73 u74 : Value} (hl : LibW w0) (hs : WS w0 w g (jobC J s)) {T0 T1 T2 T : ByteArray} (H1 : Hid (ItOK J.wi T1)) (H2 : Hid (ItOK J.me T2)) (HL : Hid (LnOK [⟨#[112,97,115,115]⟩,T1,T2] T)) (hz : T0.size ≤ 1000000 ∧ T.size ≤ 1000000) (hK : ∀ w' : World,WS w0 w' g (jobC J s) → ∀ (v65 v66 v67 v68 v69 v70 v71 v72 v73 v74 : Value),Q .normal ⟨#[u0,(.pointer (some ⟨g,0,none⟩)),(.string (T0 ++ T)),(.int .i64 0),u4,(.string T0),u6,u7,u8,u9,u10,u11,u12,u13,u14,u15,u16,u17,u18,u19,u20,u21,u22,u23,u24,u25,u26,u27,u28,u29,u30,u31,u32,u33,u34,u35,u36,u37,u38,u39,u40,u41,u42,u43,u44,u45,u46,u47,u48,u49,u50,u51,u52,u53,u54,u55,u56,u57,u58,u59,u60,u61,u62,u63,u64,v65,v66,v67,v68,v69,v70,v71,v72,v73,v74],[]⟩ w') : Code.wp Tryz.prog (Code.region 11 #[⟨some 65,.move (.tmp 5),9,"text.go:31",#[],none⟩,⟨some 66,.fieldAddr 30 (.tmp 1) 3,0,"text.go:31",#[],none⟩,⟨some 67,.load 3 (.tmp 66),3,"text.go:31",#[⟨1,.data⟩],none⟩,⟨some 68,.call { callee := .value (.func 31),args := #[.tmp 67],argTypes := #[3] },9,"text.go:31",#[⟨2,.data⟩],none⟩,⟨some 69,.fieldAddr 30 (.tmp 1) 4,0,"text.go:31",#[],none⟩,⟨some 70,.load 3 (.tmp 69),3,"text.go:31",#[⟨4,.data⟩],none⟩,⟨some 71,.call { callee := .value (.func 31),args := #[.tmp 70],argTypes := #[3] },9,"text.go:31",#[⟨5,.data⟩,⟨3,.chain⟩],none⟩,⟨some 72,.buildSlice 37 3 #[(0,.const (.string { data := #[112,97,115,115] })),(1,.tmp 68),(2,.tmp 71)],37,"text.go:31",#[⟨3,.data⟩,⟨6,.data⟩],none⟩,⟨some 73,.call { callee := .value (.func 29),args := #[.tmp 72],argTypes := #[37] },9,"text.go:31",#[⟨7,.data⟩,⟨6,.chain⟩],none⟩,⟨some 74,.binOp .add 9 (.tmp 65) (.tmp 73) 9,9,"text.go:31",#[⟨0,.data⟩,⟨8,.data⟩],none⟩,⟨some 2,.assign (.tmp 74),9,"text.go:31",#[⟨9,.data⟩,⟨8,.chain⟩,⟨0,.phase⟩,⟨1,.phase⟩,⟨2,.phase⟩,⟨3,.phase⟩,⟨4,.phase⟩,⟨5,.phase⟩,⟨6,.phase⟩,⟨7,.phase⟩,⟨8,.phase⟩,⟨9,.phase⟩],none⟩,⟨some 3,.assign (.const (.int .i64 0)),38,"text.go:31",#[⟨10,.chain⟩,⟨0,.phase⟩,⟨1,.phase⟩,⟨2,.phase⟩,⟨3,.phase⟩,⟨4,.phase⟩,⟨5,.phase⟩,⟨6,.phase⟩,⟨7,.phase⟩,⟨8,.phase⟩,⟨9,.phase⟩,⟨10,.phase⟩],none⟩] true) Q ⟨#[u0,(.pointer (some ⟨g,0,none⟩)),u2,u3,u4,(.string T0),u6,u7,u8,u9,u10,u11,u12,u13,u14,u15,u16,u17,u18,u19,u20,u21,u22,u23,u24,u25,u26,u27,u28,u29,u30,u31,u32,u33,u34,u35,u36,u37,u38,u39,u40,u41,u42,u43,u44,u45,u46,u47,u48,u49,u50,u51,u52,u53,u54,u55,u56,u57,u58,u59,u60,u61,u62,u63,u64,u65,u66,u67,u68,u69,u70,u71,u72,u73,u74],[]⟩ w := by
  have Hh := hidMk hl
  have HK := hidMk hK
  clear hl hK
  refine region_via (R := fun a_ e_ a' w' => e_ = .normal ∧ ∃ (v65 v66 v67 v68 v69 v70 v71 v72 v73 v74 : Value),a' = ((((((((((((a_.put (some 65) v65).put (some 66) v66).put (some 67) v67).put (some 68) v68).put (some 69) v69).put (some 70) v70).put (some 71) v71).put (some 72) v72).put (some 73) v73).put (some 74) v74).put (some 2) (.string (T0 ++ T))).put (some 3) (.int .i64 0)) ∧ WS w0 w' g (jobC J s)) ?_ ?_
  rotate_left
  · rintro e_ a' w' ⟨rfl,v65,v66,v67,v68,v69,v70,v71,v72,v73,v74,rfl,h1⟩
    simp only [Act.put,aT,aZ,aS]
    exact HK.out _ h1 _ _ _ _ _ _ _ _ _ _ 
  have hS := hs.drew
  clear hs
  refine wp_region_held_drew (S := fun w' => WS w0 w' g (jobC J s)) (by kernel_rfl) hS (fun hS0 => ?_)
  clear hS0
  generalize w.drew = w1 at hS ⊢
  refine wpAnyH_take (i := 0) (v := ?_) rfl (by kernel_rfl) (by kernel_rfl) (by kernel_rfl) (fun _ _ _ h => by cases h.1) (.inl ⟨by rfl,?_⟩) (by assumption) ?_
  rotate_left
  · (intro w' hSw; (try dsimp only at hSw); skip; go_simp <;> with_reducible rfl)
  (try simp only [Act.put,aT,aZ,aS])
  refine wpAnyH_take (i := 1) (v := ?_) rfl (by kernel_rfl) (by kernel_rfl) (by kernel_rfl) (fun _ _ _ h => by cases h.1) (.inl ⟨by rfl,?_⟩) (by assumption) ?_
  rotate_left
  · (intro w' hSw; (try dsimp only at hSw); skip; go_simp <;> with_reducible rfl)
  (try simp only [Act.put,aT,aZ,aS])
  refine wpAnyH_take (i := 2) (v := ?_) rfl (by kernel_rfl) (by kernel_rfl) (by kernel_rfl) (fun _ _ _ h => by cases h.1) (.inl ⟨by rfl,?_⟩) (by assumption) ?_
  rotate_left
  · (intro w' hSw; (try dsimp only at hSw); (have j0 := hSw.2.at_ 16 (.int .i64 J.wi) rfl); go_simp <;> with_reducible rfl)
  (try simp only [Act.put,aT,aZ,aS])
  refine wpAnyH_take (i := 4) (v := ?_) rfl (by kernel_rfl) (by kernel_rfl) (by kernel_rfl) (fun _ _ _ h => by cases h.1) (.inl ⟨by rfl,?_⟩) (by assumption) ?_
  rotate_left
  · (intro w' hSw; (try dsimp only at hSw); skip; go_simp <;> with_reducible rfl)
  (try simp only [Act.put,aT,aZ,aS])
  refine wpAnyH_take (i := 5) (v := ?_) rfl (by kernel_rfl) (by kernel_rfl) (by kernel_rfl) (fun _ _ _ h => by cases h.1) (.inl ⟨by rfl,?_⟩) (by assumption) ?_
  rotate_left
  · (intro w' hSw; (try dsimp only at hSw); (have j0 := hSw.2.at_ 17 (.int .i64 J.me) rfl); go_simp <;> with_reducible rfl)
  (try simp only [Act.put,aT,aZ,aS])
  refine wpAnyH_ready (rs := [3]) (by kernel_rfl) (by simp) ?_
  refine AllReadyH.cons rfl (fun K hK => ?_) ?_
  · go_simp
    go_at_call 31
    refine (H1.out _ (Hh.out.keep hS.1 Hh.out.room)).mono ?_
    rintro e w2 ⟨rfl,hb2⟩
    go_wp2_with fail
    have hS_ := hS.next hb2
    clear hb2 hS
    refine hK.out _ _ hS_ (fun _ => ?_)
    have hS := hS_
    clear hS_
    clear hK K
    (try simp only [Act.put,aT,aZ,aS])
    refine wpAnyH_ready (rs := [6]) (by kernel_rfl) (by simp) ?_
    refine AllReadyH.cons rfl (fun K hK => ?_) ?_
    · go_simp
      go_at_call 31
      refine (H2.out _ (Hh.out.keep hS.1 Hh.out.room)).mono ?_
      rintro e w3 ⟨rfl,hb2⟩
      go_wp2_with fail
      have hS_ := hS.next hb2
      clear hb2 hS
      refine hK.out _ _ hS_ (fun _ => ?_)
      have hS := hS_
      clear hS_
      clear hK K
      (try simp only [Act.put,aT,aZ,aS])
      refine wpAnyH_ready (rs := [7]) (by kernel_rfl) (by simp) ?_
      refine AllReadyH.cons rfl (fun K hK => ?_) ?_
      · have al_ : Below w3.heap.size w3 (w3.alloc (.cells #[.string ⟨#[112,97,115,115]⟩,.string T1,.string T2] 9)) := (Below.refl _ _).alloc (Nat.le_refl _) _
        have hB : Bk (w3.alloc (.cells #[.string ⟨#[112,97,115,115]⟩,.string T1,.string T2] 9)) w3.heap.size 9 #[.string ⟨#[112,97,115,115]⟩,.string T1,.string T2] := Bk.new _ _ _
        have hS_ := hS.next al_
        go_simp
        show K _ (w3.alloc (.cells #[.string ⟨#[112,97,115,115]⟩,.string T1,.string T2] 9))
        refine hK.out _ _ hS_ (fun _ => ?_)
        clear hS al_
        have hS := hS_
        clear hS_
        generalize w3.heap.size = g_ at hB ⊢
        generalize (w3.alloc (.cells #[.string ⟨#[112,97,115,115]⟩,.string T1,.string T2] 9)) = w4 at hB hS ⊢
        clear hK K
        (try simp only [Act.put,aT,aZ,aS])
        refine wpAnyH_ready (rs := [8]) (by kernel_rfl) (by simp) ?_
        refine AllReadyH.cons rfl (fun K hK => ?_) ?_
        · go_simp
          go_at_call 29
          refine (HL.out _ g_ hB).mono ?_
          rintro e w5 ⟨rfl,hb2⟩
          go_wp2_with fail
          have hS_ := hS.next hb2
          clear hb2 hS hB
          refine hK.out _ _ hS_ (fun _ => ?_)
          have hS := hS_
          clear hS_
          clear hK K
          (try simp only [Act.put,aT,aZ,aS])
          refine wpAnyH_take (i := 9) (v := ?_) rfl (by kernel_rfl) (by kernel_rfl) (by kernel_rfl) (fun _ _ _ h => by cases h.1) (.inl ⟨by rfl,?_⟩) (by assumption) ?_
          rotate_left
          · (intro w' hSw; (try dsimp only at hSw); have z1 : ¬ 9223372036854775807 < T0.size + T.size := (by omega); go_simp <;> with_reducible rfl)
          (try simp only [Act.put,aT,aZ,aS])
          refine wpAnyH_ready (rs := [10]) (by kernel_rfl) (by simp) ?_
          refine AllReadyH.cons rfl (fun K hK => ?_) ?_
          · go_simp
            refine hK.out _ _ hS (fun _ => ?_)
            clear hK K
            (try simp only [Act.put,aT,aZ,aS])
            refine wpAnyH_ready (rs := [11]) (by kernel_rfl) (by simp) ?_
            refine AllReadyH.cons rfl (fun K hK => ?_) ?_
            · go_simp
              refine hK.out _ _ hS (fun _ => ?_)
              clear hK K
              (try simp only [Act.put,aT,aZ,aS])
              refine wpAnyH_done (by kernel_rfl) ?_ _
              exact ⟨rfl,_,_,_,_,_,_,_,_,_,_,rfl,hS⟩
            exact AllReadyH.nil
          exact AllReadyH.nil
        exact AllReadyH.nil
      exact AllReadyH.nil
    exact AllReadyH.nil
  exact AllReadyH.nil
end Go.Proofs.YtljefjngmembkaaGreatDoor
/- Contracts of small functions of package reed. -/
namespace Go.Proofs.YtljefjngmembkaaGreatDoor
set_option linter.all false
open Go.RowKit

set_option maxHeartbeats 400000 in
theorem first_any (a : Option Addr) (n c : Nat) (l : List Int) (w : World) (hn : n = l.length) (hm : n ≤ 1000) (h : Is w w.heap.size a l) :
    Calls Tryz.prog 49 #[.slice a n c] w fun e w' => e = .returned (.int .i64 (firstE l)) ∧ w = w' := by
  have Hn : Hid (n = l.length) := hn
  clear hn
  have Hh : Hid (Is w w.heap.size a l) := h
  clear h
  go_enter Tryz.func49,Tryz.ntmps49
  go_wp2
  go_loop [7] (fun i => ∃ k : Nat,k ≤ n ∧ i = .int .i64 k ∧ firstE l = firstE (l.drop k)) (fun i => n - (intOf i).toNat)
  case atStart => exact ⟨0,Nat.zero_le _,rfl,rfl⟩
  case round =>
    obtain ⟨k,hk,rfl,hf⟩ := hrel
    have Hf : Hid (firstE l = firstE (l.drop k)) := hf
    clear hf
    by_cases hlt : k < n
    · have hkl : k < l.length := by rw [← Hn.out]; exact hlt
      obtain ⟨b,off,rfl,hbl,e0⟩ := Hh.out k l[k] (List.getElem?_eq_getElem hkl)
      have hd : l.drop k = l[k] :: l.drop (k + 1) := List.drop_eq_getElem_cons hkl
      have Hd : Hid (l.drop k = l[k] :: l.drop (k + 1)) := hd
      clear hd
      by_cases hz : (l[k] != 0) = true
      · go_wp2
        go_ret
        exact ⟨ret_i (by rw [Hf.out,Hd.out,firstE,if_neg (by simpa using hz)]),rfl⟩
      · replace hz : (l[k] != 0) = false := by simpa using hz
        go_wp2
        go_round
        case rel => exact ⟨k + 1,by omega,by go_num,by rw [Hf.out,Hd.out,firstE,if_pos (by simpa using hz)]⟩
        case measure => simp [intOf]; omega
    · obtain rfl : k = n := by omega
      go_wp2
      go_ret
      exact ⟨ret_i (by rw [Hf.out,List.drop_of_length_le (by rw [← Hn.out]; omega)]; rfl),rfl⟩
end Go.Proofs.YtljefjngmembkaaGreatDoor
