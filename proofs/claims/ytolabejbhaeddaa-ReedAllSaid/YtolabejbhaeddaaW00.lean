/- Part 0 of the proof: Plain, Heap, Leaf, LeafB, Win, Check, CheckB, Stroke. -/
import Derived.WalkKit
import Derived.Carry
import Derived.RangeFuncWrites
import Derived.Laws.Rows
import Derived.Laws.Tables
import Derived.Deep.MidRow
import Derived.Deep.Draws
import Derived.Deep.Quiet
import Derived.Test.YtolabejbhaeddaaProg
import Derived.WalkLawsBesides
import Derived.Outline
import Derived.BigQuiet
import Derived.Deep.RegionHeld3
import Derived.Maps.AppendAt
import Derived.Deep.DeepMust
import Derived.Deep.AppendLies
import Derived.Deep.DeepCutAuto
/- Plain facts, without Go: what the functions of package reed compute, on numbers and lists. -/
namespace Go.Proofs.Ytolabejbhaeddaa
set_option linter.all false

abbrev R2 := Int × Int

/-- A job, flat. -/
structure Jb where
  p1 : Int
  p2 : Int
  t1 : Int
  t2 : Int
  r1 : Int
  r2 : Int
  u1 : Int
  u2 : Int
  d1 : Int
  d2 : Int
  x1 : Int
  x2 : Int
  y1 : Int
  y2 : Int
  le : Int
  wi : Int
  me : Int
  sh : List R2

/-- A tongue, flat. -/
structure Tg where
  p1 : Int
  p2 : Int
  t1 : Int
  t2 : Int
  r1 : Int
  r2 : Int
  deriving DecidableEq

def Jb.tg (J : Jb) : Tg := ⟨J.p1,J.p2,J.t1,J.t2,J.r1,J.r2⟩
def Jb.setTg (J : Jb) (t : Tg) : Jb := { J with p1 := t.p1,p2 := t.p2,t1 := t.t1,t2 := t.t2,r1 := t.r1,r2 := t.r2 }

/-! ### checks -/
def numE (n lo hi : Int) : Int := if n < lo ∨ hi < n then 1 else 0
def rngE (a b lo hi : Int) : Int := if a < lo ∨ hi < a then 1 else if b < lo ∨ hi < b then 1 else if b < a then 5 else 0
def firstE : List Int → Int
  | [] => 0
  | e :: l => if e = 0 then firstE l else e
def shE : List R2 → Int
  | [] => 0
  | s :: l => if rngE s.1 s.2 (-60) 60 = 0 then shE l else rngE s.1 s.2 (-60) 60
def Jb.head (J : Jb) : Int :=
  firstE [rngE J.p1 J.p2 (-60) 60,rngE J.t1 J.t2 0 100,rngE J.r1 J.r2 0 100,rngE J.u1 J.u2 0 12,rngE J.d1 J.d2 0 12,rngE J.x1 J.x2 0 12,rngE J.y1 J.y2 0 12,numE J.le 0 100]
def Jb.check (J : Jb) : Int :=
  if J.head = 0 then
    if 4 < J.sh.length then 6
    else if shE J.sh = 0 then firstE [numE J.wi 0 60,numE J.me 0 6] else shE J.sh
  else J.head

/-! ### windows -/
def conds (sh : List R2) : List R2 := if sh = [] then [(0,0)] else sh
def mx (a b : Int) : Int := if a < b then b else a
def mn (a b : Int) : Int := if b < a then b else a
def meet2 (r o : R2) : R2 := (if r.1 < o.1 then o.1 else r.1,if o.2 < r.2 then o.2 else r.2)
def meetL (r : R2) (l : List R2) : R2 := l.foldl meet2 r
def sureOf (wi : Int) (s : R2) : R2 := (-wi - s.1,wi - s.2)
def possOf (wi : Int) (s : R2) : R2 := (-wi - s.2,wi - s.1)
theorem meetL_snoc (r : R2) (l : List R2) (x : R2) : meetL r (l ++ [x]) = meet2 (meetL r l) x := by simp [meetL]
def meetAll : List R2 → R2
  | [] => (0,0)
  | r :: l => meetL r l
def win (wi : Int) (sh : List R2) : R2 := meetAll ((conds sh).map (sureOf wi))
def pos (wi : Int) (sh : List R2) : R2 := meetAll ((conds sh).map (possOf wi))
def passI (wi : Int) (sh : List R2) (a b : Int) : Int :=
  if (win wi sh).1 ≤ a ∧ b ≤ (win wi sh).2 then 1
  else if (meet2 (pos wi sh) (a,b)).2 < (meet2 (pos wi sh) (a,b)).1 then 2 else 3

/-! ### strokes -/
def strk (J : Jb) (t : Tg) (s : Int) : Tg :=
  if s = 1 then { t with p1 := t.p1 + J.u1,p2 := t.p2 + J.u2,t1 := t.t1 - J.x2,t2 := t.t2 - J.x1 }
  else if s = 2 then { t with p1 := t.p1 - J.d2,p2 := t.p2 - J.d1,r1 := t.r1 - J.y2,r2 := t.r2 - J.y1 }
  else t
def afterS (J : Jb) (t : Tg) (l : List Int) : Tg := l.foldl (strk J) t
def spoilI (le : Int) (t : Tg) : Int :=
  if t.t2 < le ∨ t.r2 < le then 1 else if le ≤ t.t1 ∧ le ≤ t.r1 then 2 else 3
def fineI (J : Jb) (t : Tg) : Int :=
  if passI J.wi J.sh t.p1 t.p2 = 1 ∧ spoilI J.le t = 2 then 1
  else if passI J.wi J.sh t.p1 t.p2 = 2 ∨ spoilI J.le t = 1 then 2 else 3
def worstI (J : Jb) (t : Tg) : Int :=
  (conds J.sh).foldl (fun m s => mx (mx m (-(t.p1 + s.1))) (t.p2 + s.2)) 0
/-! ### the game -/
end Go.Proofs.Ytolabejbhaeddaa
/- Words for memory, of our own: a block that is known whole, a slice of ranges that reads as a list, and how they are kept. -/
namespace Go.Proofs.Ytolabejbhaeddaa
set_option linter.all false
open Go.RowKit

theorem aT {α : Type} (l : List α) (i : Nat) (x : α) : l.toArray.setIfInBounds i x = (l.set i x).toArray := List.setIfInBounds_toArray ..
theorem aZ {α : Type} (a b : α) (l : List α) : (a :: l).set 0 b = b :: l := List.set_cons_zero
theorem aS {α : Type} (a b : α) (l : List α) (n : Nat) : (a :: l).set (n + 1) b = a :: l.set n b := List.set_cons_succ
theorem hidMk {p : Prop} (h : p) : Hid p := h
def iv (n : Int) : Value := .int .i64 n

/-- Block g holds just the cells cs, none frozen. -/
def Bk (w : World) (g : Nat) (t : TypeId) (cs : Array Value) : Prop := w.heap[g]? = some (.cells cs t (0,0))

section
variable {w w' : World} {g : Nat} {t : TypeId} {cs : Array Value}
theorem Bk.lt (h : Bk w g t cs) : g < w.heap.size := (Array.getElem?_eq_some_iff.1 h).1
theorem Bk.at_ (h : Bk w g t cs) (i : Nat) (v : Value) (hv : cs[i]? = some v) : w.cell? ⟨g,i,none⟩ = some v := by
  rw [cell_of_row w g i cs t (0,0) h]; exact hv
theorem Bk.free (h : Bk w g t cs) (i : Nat) : w.frozen? ⟨g,i,none⟩ = false := by
  unfold Bk at h
  simp [World.frozen?,h]
theorem Bk.new (w : World) (t : TypeId) (cs : Array Value) : Bk (w.alloc (.cells cs t)) w.heap.size t cs := World.alloc_heap_new w _
theorem Bk.newAt (w : World) (t : TypeId) (cs : Array Value) (n : Nat) (hn : n = w.heap.size) : Bk (w.alloc (.cells cs t)) n t cs := by subst hn; exact Bk.new w t cs
theorem Bk.drew (h : Bk w g t cs) : Bk w.drew g t cs := h
theorem Bk.drewN (h : Bk w g t cs) (n : Nat) : Bk (w.drewN n) g t cs := h
theorem Bk.alloc (h : Bk w g t cs) (o : Obj) : Bk (w.alloc o) g t cs := (Below.heap_alloc w o g h.lt).trans h
theorem Bk.put (h : Bk w g t cs) (i : Nat) (u : Value) : Bk (w.setCell ⟨g,i,none⟩ u) g t (cs.setIfInBounds i u) := by
  unfold Bk at h ⊢
  simp [World.setCell,Array.getElem?_modify,h]
theorem Bk.put2 {a b : Value} (h : Bk w g t #[a,b]) (x y : Value) : Bk ((w.setCell ⟨g,0,none⟩ x).setCell ⟨g,1,none⟩ y) g t #[x,y] := (h.put 0 x).put 1 y
theorem Bk.put1 {a : Value} (h : Bk w g t #[a]) (x : Value) : Bk (w.setCell ⟨g,0,none⟩ x) g t #[x] := h.put 0 x
theorem Bk.other (h : Bk w g t cs) {p : Addr} (hp : g ≠ p.block) (u : Value) : Bk (w.setCell p u) g t cs := (Below.heap_setCell w p u g hp).trans h
theorem Bk.below {B : Nat} (h : Bk w g t cs) (hb : Below B w w') (hg : g < B) : Bk w' g t cs := (hb.block g hg).trans h
theorem Bk.grown {row : Option Nat} (h : Bk w g t cs) (hb : w.grownBy w' row) (hg : some g ≠ row) : Bk w' g t cs := (hb.block g h.lt hg).trans h
end

theorem setRow_other (w : World) (g k : Nat) (cs : Array Value) (h : k ≠ g) : (w.setRow g cs).heap[k]? = w.heap[k]? := by
  simp only [World.setRow,Array.getElem?_modify]
  rw [if_neg (by omega)]
theorem Bk.row {w : World} {g : Nat} {t : TypeId} {cs : Array Value} (h : Bk w g t cs) (ds : Array Value) : Bk (w.setRow g ds) g t ds := by
  unfold Bk at h ⊢
  simp [World.setRow,Array.getElem?_modify,h]
theorem Bk.rowOther {w : World} {g k : Nat} {t : TypeId} {cs : Array Value} (h : Bk w k t cs) (hk : k ≠ g) (ds : Array Value) : Bk (w.setRow g ds) k t cs := (setRow_other w g k ds hk).trans h
theorem below_setRow {B g : Nat} {a w : World} (h : Below B a w) (hg : B ≤ g) (cs : Array Value) : Below B a (w.setRow g cs) :=
  h.trans ⟨rfl,rfl,rfl,by simp,fun k hk => setRow_other w g k cs (by omega)⟩

/-- A slice at a reads as the list of ranges l (its spare places are not spoken of). -/
def Rg (w : World) (B : Nat) (a : Option Addr) (l : List R2) : Prop :=
  ∀ k r,l[k]? = some r → ∃ b off,a = some ⟨b,off,none⟩ ∧ b < B ∧ w.cell? ⟨b,off + k * 2,none⟩ = some (.int .i64 r.1) ∧ w.cell? ⟨b,off + k * 2 + 1,none⟩ = some (.int .i64 r.2)

theorem Rg.keep {w w' : World} {B B' : Nat} {a : Option Addr} {l : List R2} (h : Rg w B a l) (hB : B ≤ B') (hk : ∀ p : Addr,p.block < B → w'.cell? p = w.cell? p) : Rg w' B' a l := fun k r hr => by
  obtain ⟨b,off,e,hb,h1,h2⟩ := h k r hr
  exact ⟨b,off,e,by omega,(hk _ hb).trans h1,(hk _ hb).trans h2⟩
theorem Rg.below {w w' : World} {B : Nat} {a : Option Addr} {l : List R2} (h : Rg w B a l) (hb : Below B w w') : Rg w' B a l := h.keep (Nat.le_refl _) fun _ hp => hb.cell hp
theorem Rg.up {w w' : World} {a : Option Addr} {l : List R2} (h : Rg w w.heap.size a l) (hb : Below w.heap.size w w') : Rg w' w'.heap.size a l := (h.below hb).keep hb.size fun _ _ => rfl
theorem Rg.nil (w : World) (B : Nat) (a : Option Addr) : Rg w B a [] := fun k r h => by simp at h

/-- A slice at a reads as the list of ints l. -/
def Is (w : World) (B : Nat) (a : Option Addr) (l : List Int) : Prop :=
  ∀ k n,l[k]? = some n → ∃ b off,a = some ⟨b,off,none⟩ ∧ b < B ∧ w.cell? ⟨b,off + k,none⟩ = some (.int .i64 n)
theorem Is.keep {w w' : World} {B B' : Nat} {a : Option Addr} {l : List Int} (h : Is w B a l) (hB : B ≤ B') (hk : ∀ p : Addr,p.block < B → w'.cell? p = w.cell? p) : Is w' B' a l := fun k r hr => by
  obtain ⟨b,off,e,hb,h1⟩ := h k r hr
  exact ⟨b,off,e,by omega,(hk _ hb).trans h1⟩
theorem Is.below {w w' : World} {B : Nat} {a : Option Addr} {l : List Int} (h : Is w B a l) (hb : Below B w w') : Is w' B a l := h.keep (Nat.le_refl _) fun _ hp => hb.cell hp
theorem Is.up {w w' : World} {a : Option Addr} {l : List Int} (h : Is w w.heap.size a l) (hb : Below w.heap.size w w') : Is w' w'.heap.size a l := (h.below hb).keep hb.size fun _ _ => rfl
theorem Is.nil (w : World) (B : Nat) (a : Option Addr) : Is w B a [] := fun k r h => by simp at h

theorem Is.of_bk {W : World} {g B : Nat} {t : TypeId} (l : List Int) (h : Bk W g t (l.map (Value.int .i64)).toArray) (hB : g < B) : Is W B (some ⟨g,0,none⟩) l := fun k n hk =>
  ⟨g,0,rfl,hB,by rw [Nat.zero_add]; exact h.at_ k _ (by simp [hk])⟩
def rgCells : List R2 → List Value
  | [] => []
  | r :: l => .int .i64 r.1 :: .int .i64 r.2 :: rgCells l
theorem rgCells_at : ∀ (l : List R2) (k : Nat) (r : R2),l[k]? = some r → (rgCells l)[k * 2]? = some (.int .i64 r.1) ∧ (rgCells l)[k * 2 + 1]? = some (.int .i64 r.2)
  | x :: l,0,r,h => by
    obtain rfl : x = r := by simpa using h
    exact ⟨rfl,rfl⟩
  | x :: l,k + 1,r,h => by
    have := rgCells_at l k r (by simpa using h)
    rw [show (k + 1) * 2 = k * 2 + 1 + 1 from by omega]
    simpa [rgCells] using this
theorem Rg.of_bk {W : World} {g B : Nat} {t : TypeId} (l : List R2) (h : Bk W g t (rgCells l).toArray) (hB : g < B) : Rg W B (some ⟨g,0,none⟩) l := fun k r hk =>
  ⟨g,0,rfl,hB,by rw [Nat.zero_add]; exact h.at_ _ _ (by simp [(rgCells_at l k r hk).1]),by rw [Nat.zero_add]; exact h.at_ _ _ (by simp [(rgCells_at l k r hk).2])⟩

theorem cell_other (w : World) (g o g' o' : Nat) (v : Value) (h : g ≠ g') : (w.setCell ⟨g,o,none⟩ v).cell? ⟨g',o',none⟩ = w.cell? ⟨g',o',none⟩ :=
  World.cell?_of_block (a := ⟨g',o',none⟩) (Below.heap_setCell w ⟨g,o,none⟩ v g' (fun e => h e.symm))
/-- A chain of calls, each of which leaves alone what was there when it began. -/
theorem chainB {B : Nat} {w0 W w' : World} (hB : Below B w0 W) (hs : B ≤ w0.heap.size) (hb : Below W.heap.size W w') : Below B w0 w' := hB.trans (hb.mono (Nat.le_trans hs hB.size))
/-- What a contract that makes memory says to the walk behind it: all old cells and marks read as before. -/
theorem bcell {W w1 : World} (hb : Below W.heap.size W w1) : (∀ b o,b < W.heap.size → w1.cell? ⟨b,o,none⟩ = W.cell? ⟨b,o,none⟩) ∧ (∀ b o,b < W.heap.size → w1.frozen? ⟨b,o,none⟩ = W.frozen? ⟨b,o,none⟩) :=
  ⟨fun b o h => hb.cell (p := ⟨b,o,none⟩) h,fun b o h => hb.frozen (p := ⟨b,o,none⟩) h⟩

theorem ret_i {k : IntKind} {a b : Int} (h : a = b) : Ending.returned (.int k a) = .returned (.int k b) := by rw [h]
theorem take_snoc {α : Type} (l : List α) (k : Nat) (h : k < l.length) : l.take (k + 1) = l.take k ++ [l[k]] := by
  rw [List.take_succ_eq_append_getElem h]

/-- The cells of a job whose shifts are the slice value s. -/
abbrev jobC (J : Jb) (s : Value) : Array Value :=
  #[.int .i64 J.p1,.int .i64 J.p2,.int .i64 J.t1,.int .i64 J.t2,.int .i64 J.r1,.int .i64 J.r2,.int .i64 J.u1,.int .i64 J.u2,.int .i64 J.d1,.int .i64 J.d2,
    .int .i64 J.x1,.int .i64 J.x2,.int .i64 J.y1,.int .i64 J.y2,.int .i64 J.le,s,.int .i64 J.wi,.int .i64 J.me]
abbrev tonC (t : Tg) : Array Value := #[.int .i64 t.p1,.int .i64 t.p2,.int .i64 t.t1,.int .i64 t.t2,.int .i64 t.r1,.int .i64 t.r2]

/-- All numbers of a job lie within n. -/
structure Jb.In (J : Jb) (n : Int) : Prop where
  p1 : -n ≤ J.p1 ∧ J.p1 ≤ n
  p2 : -n ≤ J.p2 ∧ J.p2 ≤ n
  t1 : -n ≤ J.t1 ∧ J.t1 ≤ n
  t2 : -n ≤ J.t2 ∧ J.t2 ≤ n
  r1 : -n ≤ J.r1 ∧ J.r1 ≤ n
  r2 : -n ≤ J.r2 ∧ J.r2 ≤ n
  u1 : 0 ≤ J.u1 ∧ J.u1 ≤ 12
  u2 : 0 ≤ J.u2 ∧ J.u2 ≤ 12
  d1 : 0 ≤ J.d1 ∧ J.d1 ≤ 12
  d2 : 0 ≤ J.d2 ∧ J.d2 ≤ 12
  x1 : 0 ≤ J.x1 ∧ J.x1 ≤ 12
  x2 : 0 ≤ J.x2 ∧ J.x2 ≤ 12
  y1 : 0 ≤ J.y1 ∧ J.y1 ≤ 12
  y2 : 0 ≤ J.y2 ∧ J.y2 ≤ 12
  le : 0 ≤ J.le ∧ J.le ≤ 100
  wi : 0 ≤ J.wi ∧ J.wi ≤ 60
  me : 0 ≤ J.me ∧ J.me ≤ 6
  sh : ∀ s ∈ J.sh,-60 ≤ s.1 ∧ s.1 ≤ 60 ∧ -60 ≤ s.2 ∧ s.2 ≤ 60
  len : J.sh.length ≤ 4

end Go.Proofs.Ytolabejbhaeddaa
/- Contracts of the leaves of package reed. -/
namespace Go.Proofs.Ytolabejbhaeddaa
set_option linter.all false
open Go.RowKit

theorem szJob : (Try.prog.info? 30).map (·.size) = some 18 := by kernel_rfl
theorem szWork : (Try.prog.info? 104).map (·.size) = some 18 := by kernel_rfl
theorem szTongue : (Try.prog.info? 25).map (·.size) = some 6 := by kernel_rfl
theorem szRange : (Try.prog.info? 23).map (·.size) = some 2 := by kernel_rfl
theorem oneJob (K : Jb) (a : Option Addr) (n c : Nat) : (jobC K (.slice a n c)).all (·.oneCell') = true := by simp [jobC,Value.oneCell']
theorem oneTon (t : Tg) : (tonC t).all (·.oneCell') = true := by simp [tonC,Value.oneCell']

theorem checkNumber_any (n lo hi : Int) (w : World) :
    Calls Try.prog 76 #[.int .i64 n,.int .i64 lo,.int .i64 hi] w fun e w' => e = .returned (.int .i64 (numE n lo hi)) ∧ w = w' := by
  by_cases h1 : n < lo
  · have H : Hid (numE n lo hi = 1) := by show numE n lo hi = 1; simp [numE,h1]
    go_enter Try.func76,Try.ntmps76
    go_wp2
    go_ret
    exact ⟨by rw [H.out]; rfl,rfl⟩
  · by_cases h2 : hi < n
    · have H : Hid (numE n lo hi = 1) := by show numE n lo hi = 1; simp [numE,h2]
      go_enter Try.func76,Try.ntmps76
      go_wp2
      go_ret
      exact ⟨by rw [H.out]; rfl,rfl⟩
    · have H : Hid (numE n lo hi = 0) := by show numE n lo hi = 0; simp [numE,h1,h2]
      go_enter Try.func76,Try.ntmps76
      go_wp2
      go_ret
      exact ⟨by rw [H.out]; rfl,rfl⟩

theorem empty_any (a b : Int) (w : World) :
    Calls Try.prog 66 #[.agg #[.int .i64 a,.int .i64 b]] w fun e w' => e = .returned (.bool (decide (b < a))) ∧ w.alloc (.cells #[.int .i64 a,.int .i64 b] 23) = w' := by
  go_enter Try.func66,Try.ntmps66
  go_wp2
  go_ret
  exact ⟨rfl,rfl⟩

theorem holds_yes (a b c d : Int) (h : a ≤ c ∧ d ≤ b) (w : World) :
    Calls Try.prog 78 #[.agg #[.int .i64 a,.int .i64 b],.agg #[.int .i64 c,.int .i64 d]] w fun e w' => e = .returned (.bool true) ∧ (w.alloc (.cells #[.int .i64 a,.int .i64 b] 23)).alloc (.cells #[.int .i64 c,.int .i64 d] 23) = w' := by
  obtain ⟨h1,h2⟩ := h
  go_enter Try.func78,Try.ntmps78
  go_wp2
  go_ret
  exact ⟨rfl,rfl⟩

theorem holds_no (a b c d : Int) (h : ¬ (a ≤ c ∧ d ≤ b)) (w : World) :
    Calls Try.prog 78 #[.agg #[.int .i64 a,.int .i64 b],.agg #[.int .i64 c,.int .i64 d]] w fun e w' => e = .returned (.bool false) ∧ (w.alloc (.cells #[.int .i64 a,.int .i64 b] 23)).alloc (.cells #[.int .i64 c,.int .i64 d] 23) = w' := by
  by_cases h1 : a ≤ c
  · have h2 : ¬ d ≤ b := fun k => h ⟨h1,k⟩
    clear h
    go_enter Try.func78,Try.ntmps78
    go_wp2
    go_ret
    exact ⟨rfl,rfl⟩
  · clear h
    go_enter Try.func78,Try.ntmps78
    go_wp2
    go_ret
    exact ⟨rfl,rfl⟩


set_option maxHeartbeats 400000 in
theorem meet_any (p q : Int) (a : Option Addr) (n c : Nat) (l : List R2) (w : World) (hn : n = l.length) (hm : n ≤ 1000) (h : Rg w w.heap.size a l) :
    Calls Try.prog 88 #[.agg #[.int .i64 p,.int .i64 q],.slice a n c] w fun e w' => e = .returned (.agg #[.int .i64 (meetL (p,q) l).1,.int .i64 (meetL (p,q) l).2]) ∧ Below w.heap.size w w' := by
  have Hn : Hid (n = l.length) := hn
  clear hn
  have Hh : Hid (Rg w w.heap.size a l) := h
  clear h
  go_enter Try.func88,Try.ntmps88
  go_wp2
  go_loopw [9] (fun i wr => ∃ k : Nat,k ≤ n ∧ i = .int .i64 k ∧ Bk wr w.heap.size 23 #[.int .i64 (meetL (p,q) (l.take k)).1,.int .i64 (meetL (p,q) (l.take k)).2] ∧
      Bk wr (w.heap.size + 1) 23 #[.int .i64 0,.int .i64 0] ∧ Below w.heap.size w wr) (fun i _ => n - (intOf i).toNat)
  case atStart =>
    refine ⟨0,Nat.zero_le _,rfl,?_,?_,?_⟩
    · exact (Bk.new w _ _).alloc _
    · have := Bk.new (w.alloc (.cells #[.int .i64 p,.int .i64 q] 23)) 23 #[.int .i64 0,.int .i64 0]
      rwa [World.size_alloc] at this
    · exact ((Below.refl _ _).alloc (Nat.le_refl _) _).alloc (by simp) _
  case round =>
    obtain ⟨k,hk,rfl,hb,ho,hB⟩ := hrel
    have hs := hB.size
    have hl1 := hb.lt
    have hl2 := ho.lt
    have c0 := hb.at_ 0 _ rfl
    have c1 := hb.at_ 1 _ rfl
    have f0 := hb.free 0
    have f1 := hb.free 1
    have o0 := ho.at_ 0 _ rfl
    have o1 := ho.at_ 1 _ rfl
    have g0 := ho.free 0
    have g1 := ho.free 1
    by_cases hlt : k < n
    · have hkl : k < l.length := by rw [← Hn.out]; exact hlt
      obtain ⟨b,off,rfl,hbl,e0,e1⟩ := Hh.out k l[k] (List.getElem?_eq_getElem hkl)
      replace e0 := (hB.cell (p := ⟨b,off + k * 2,none⟩) hbl).trans e0
      replace e1 := (hB.cell (p := ⟨b,off + k * 2 + 1,none⟩) hbl).trans e1
      have hbl' : b < wr.heap.size := by omega
      go_wp2
      go_roundw
      case rel =>
        refine ⟨k + 1,by omega,by go_num,?_,?_,?_⟩
        · rw [take_snoc l k hkl,meetL_snoc]
          exact (hb.put2 _ _).alloc _
        · exact ((ho.other (by simp) _).other (by simp) _).alloc _
        · exact ((hB.setCell (by simp) _).setCell (by simp) _).alloc (by simp; omega) _
      case measure => simp [intOf]; omega
    · obtain rfl : k = n := by omega
      go_wp2
      have e : l.take k = l := by rw [Hn.out]; exact List.take_length
      refine bodyPost_ret (v := .agg #[.int .i64 (meetL (p,q) (l.take k)).1,.int .i64 (meetL (p,q) (l.take k)).2]) (by simp [results,Try.results88,go_sem,o0,o1]) rfl ⟨by rw [e],?_⟩
      exact (hB.setCell (by simp) _).setCell (by simp) _

end Go.Proofs.Ytolabejbhaeddaa
/- Contracts of small functions of package reed. -/
namespace Go.Proofs.Ytolabejbhaeddaa
set_option linter.all false
open Go.RowKit

theorem sum_any (a b c d : Int) (w : World) (h : -100000 ≤ a ∧ a ≤ 100000 ∧ -100000 ≤ b ∧ b ≤ 100000 ∧ -100000 ≤ c ∧ c ≤ 100000 ∧ -100000 ≤ d ∧ d ≤ 100000) :
    Calls Try.prog 87 #[.agg #[.int .i64 a,.int .i64 b],.agg #[.int .i64 c,.int .i64 d]] w fun e w' => e = .returned (.agg #[.int .i64 (a + c),.int .i64 (b + d)]) ∧ Below w.heap.size w w' := by
  obtain ⟨h1,h2,h3,h4,h5,h6,h7,h8⟩ := h
  go_enter Try.func87,Try.ntmps87
  go_wp2
  refine bodyPost_ret (v := .agg #[.int .i64 (a + c),.int .i64 (b + d)]) (by simp [results,Try.results87,go_sem]) rfl ⟨rfl,?_⟩
  exact (((Below.refl _ _).alloc (Nat.le_refl _) _).alloc (by simp) _).alloc (by simp; omega) _

theorem difference_any (a b c d : Int) (w : World) (h : -100000 ≤ a ∧ a ≤ 100000 ∧ -100000 ≤ b ∧ b ≤ 100000 ∧ -100000 ≤ c ∧ c ≤ 100000 ∧ -100000 ≤ d ∧ d ≤ 100000) :
    Calls Try.prog 93 #[.agg #[.int .i64 a,.int .i64 b],.agg #[.int .i64 c,.int .i64 d]] w fun e w' => e = .returned (.agg #[.int .i64 (a - d),.int .i64 (b - c)]) ∧ Below w.heap.size w w' := by
  obtain ⟨h1,h2,h3,h4,h5,h6,h7,h8⟩ := h
  go_enter Try.func93,Try.ntmps93
  go_wp2
  refine bodyPost_ret (v := .agg #[.int .i64 (a - d),.int .i64 (b - c)]) (by simp [results,Try.results93,go_sem]) rfl ⟨rfl,?_⟩
  exact (((Below.refl _ _).alloc (Nat.le_refl _) _).alloc (by simp) _).alloc (by simp; omega) _

theorem to_any (a b : Int) (w : World) :
    Calls Try.prog 32 #[.int .i64 a,.int .i64 b] w fun e w' => e = .returned (.agg #[.int .i64 a,.int .i64 b]) ∧ Below w.heap.size w w' := by
  go_enter Try.func32,Try.ntmps32
  go_wp2
  refine bodyPost_ret (v := .agg #[.int .i64 a,.int .i64 b]) (by simp [results,Try.results32,go_sem]) rfl ⟨rfl,?_⟩
  exact (Below.refl _ _).alloc (Nat.le_refl _) _

/-- What 'conditions' hands back: a slice that reads as the shifts, or as one shift of 0. -/
def CondsEnd (J : Jb) (w : World) (e : Ending) (w' : World) : Prop :=
  ∃ a c,e = .returned (.slice a (conds J.sh).length c) ∧ Rg w' w'.heap.size a (conds J.sh) ∧ Below w.heap.size w w'

set_option maxHeartbeats 400000 in
theorem conditions_any (J : Jb) (a : Option Addr) (n c : Nat) (w : World) (hn : n = J.sh.length) (hm : n ≤ 4) (h : Rg w w.heap.size a J.sh) :
    Calls Try.prog 86 #[.agg (jobC J (.slice a n c))] w (CondsEnd J w) := by
  have Hn : Hid (n = J.sh.length) := hn
  clear hn
  have Hh : Hid (Rg w w.heap.size a J.sh) := h
  clear h
  by_cases h0 : n = 0
  · subst h0
    go_enter Try.func86,Try.ntmps86
    go_wp2
    go_ret
    have e : J.sh = [] := List.length_eq_zero_iff.1 Hn.out.symm
    refine ⟨some ⟨w.heap.size + 1,0,none⟩,1,by rw [e]; rfl,?_,((Below.refl _ _).alloc (Nat.le_refl _) _).alloc (by simp) _⟩
    rw [e]
    intro k x hx
    match k,hx with
    | 0,hx =>
      obtain rfl : ((0 : Int),(0 : Int)) = x := by simpa [conds] using hx
      exact ⟨w.heap.size + 1,0,rfl,by simp,by simp [go_sem],by simp [go_sem]⟩
  · have hb : ((n : Int) == 0) = false := by rw [beq_eq_false_iff_ne]; omega
    clear h0
    go_enter Try.func86,Try.ntmps86
    go_wp2
    go_ret
    have e : conds J.sh = J.sh := by
      unfold conds
      rw [if_neg]
      intro k
      have := Hn.out
      rw [k] at this
      subst this
      simp at hb
    refine ⟨a,c,by rw [e,← Hn.out]; rfl,?_,(Below.refl _ _).alloc (Nat.le_refl _) _⟩
    rw [e]
    exact Hh.out.keep (by simp) fun p hp => World.cell?_alloc_lt w _ p hp

set_option maxHeartbeats 400000 in
theorem first_any (a : Option Addr) (n c : Nat) (l : List Int) (w : World) (hn : n = l.length) (hm : n ≤ 1000) (h : Is w w.heap.size a l) :
    Calls Try.prog 74 #[.slice a n c] w fun e w' => e = .returned (.int .i64 (firstE l)) ∧ w = w' := by
  have Hn : Hid (n = l.length) := hn
  clear hn
  have Hh : Hid (Is w w.heap.size a l) := h
  clear h
  go_enter Try.func74,Try.ntmps74
  go_wp2
  go_loop [7] (fun i => ∃ k : Nat,k ≤ n ∧ i = .int .i64 k ∧ firstE l = firstE (l.drop k)) (fun i => n - (intOf i).toNat)
  case atStart => exact ⟨0,Nat.zero_le _,rfl,rfl⟩
  case round =>
    obtain ⟨k,hk,rfl,hf⟩ := hrel
    have Hf : Hid (firstE l = firstE (l.drop k)) := hf
    clear hf
    by_cases hlt : k < n
    · have hkl : k < l.length := by rw [← Hn.out]; exact hlt
      obtain ⟨b,off,rfl,hbl,e0⟩ := Hh.out k l[k] (List.getElem?_eq_getElem hkl)
      have hd : l.drop k = l[k] :: l.drop (k + 1) := List.drop_eq_getElem_cons hkl
      have Hd : Hid (l.drop k = l[k] :: l.drop (k + 1)) := hd
      clear hd
      by_cases hz : (l[k] != 0) = true
      · go_wp2
        go_ret
        exact ⟨ret_i (by rw [Hf.out,Hd.out,firstE,if_neg (by simpa using hz)]),rfl⟩
      · replace hz : (l[k] != 0) = false := by simpa using hz
        go_wp2
        go_round
        case rel => exact ⟨k + 1,by omega,by go_num,by rw [Hf.out,Hd.out,firstE,if_pos (by simpa using hz)]⟩
        case measure => simp [intOf]; omega
    · obtain rfl : k = n := by omega
      go_wp2
      go_ret
      exact ⟨ret_i (by rw [Hf.out,List.drop_of_length_le (by rw [← Hn.out]; omega)]; rfl),rfl⟩
end Go.Proofs.Ytolabejbhaeddaa
/- The contract of reed.windows. -/
namespace Go.Proofs.Ytolabejbhaeddaa
set_option linter.all false
open Go.RowKit

theorem infoRange : (Try.prog.info? 23).map (fun i => (i.zero,i.size,i.bytes)) = some (some (.agg #[.int .i64 0,.int .i64 0]),2,16) := by kernel_rfl

/-- Two slices do not share a row. -/
def Dis (u v : Value) : Prop := ∀ g,u.ownBlock = some g → v.ownBlock = some g → False

theorem news_of_bk {W : World} {g : Nat} {t : TypeId} {x y : Value} (h : Bk W g t #[x,y]) : ∀ j u,[x,y][j]? = some u → W.cell? ((⟨g,0,none⟩ : Addr).add j) = some u := by
  intro j u hj
  have : (⟨g,0,none⟩ : Addr).add j = ⟨g,j,none⟩ := by unfold Addr.add; split <;> simp_all
  rw [this]
  exact h.at_ j u (by simpa using hj)

theorem rgCells_snoc : ∀ (l : List R2) (r : R2),rgCells (l ++ [r]) = rgCells l ++ [.int .i64 r.1,.int .i64 r.2]
  | [],r => rfl
  | x :: l,r => by simp [rgCells,rgCells_snoc l r]

theorem two_newR (w : World) (C D : Array Value) (t u : TypeId) : Bk ((w.alloc (.cells C t)).alloc (.cells D u)) (w.heap.size + 1) u D := by
  have := Bk.new (w.alloc (.cells C t)) u D
  rwa [World.size_alloc] at this
theorem rgCells_snoc_map (l : List R2) (f : R2 → R2) (r : R2) : rgCells (l ++ List.map f [r]) = rgCells l ++ [.int .i64 (f r).1,.int .i64 (f r).2] := rgCells_snoc l (f r)
/-- What 'windows' hands back. -/
def WinEnd (J : Jb) (w : World) (e : Ending) (w' : World) : Prop :=
  e = .returned (.tuple #[.agg #[.int .i64 (win J.wi J.sh).1,.int .i64 (win J.wi J.sh).2],.agg #[.int .i64 (pos J.wi J.sh).1,.int .i64 (pos J.wi J.sh).2]]) ∧ Below w.heap.size w w'

theorem own_step {wr w2 : World} {B k : Nat} {t : TypeId} {v u : Value} {xs : List Value} (o p : Obj) (h : wr.ownsRow B t 2 u k xs) (hg : ((wr.alloc o).alloc p).grownBy w2 v.ownBlock) (hd : Dis v u) : w2.ownsRow B t 2 u k xs :=
  ((h.alloc o).alloc p).kept hg (by
    cases e : u.ownBlock with
    | none => exact .inl rfl
    | some g => exact .inr fun e' => hd g e'.symm e)
theorem dis_step {wr : World} {B k : Nat} {t : TypeId} {v u v' : Value} {xs : List Value} {n : Nat} (hu : wr.ownsRow B t 2 u k xs) (hd : Dis v u) (hn : wr.heap.size ≤ n) (hat : v'.ownBlock = v.ownBlock ∨ v'.ownBlock = some n) : Dis v' u := by
  intro g h1 h2
  rcases hat with e | e
  · exact hd g (e ▸ h1) h2
  · have := (hu.lt g h2).2
    rw [e] at h1
    simp at h1
    omega
theorem Dis.symm {u v : Value} (h : Dis u v) : Dis v u := fun g h1 h2 => h g h2 h1

theorem conds_len (sh : List R2) (h : sh.length ≤ 4) : 1 ≤ (conds sh).length ∧ (conds sh).length ≤ 4 := by
  unfold conds
  by_cases e : sh = []
  · rw [if_pos e]; simp
  · rw [if_neg e]
    have := List.length_pos_iff.2 e
    omega
theorem conds_in (sh : List R2) (h : ∀ s ∈ sh,-60 ≤ s.1 ∧ s.1 ≤ 60 ∧ -60 ≤ s.2 ∧ s.2 ≤ 60) : ∀ s ∈ conds sh,-60 ≤ s.1 ∧ s.1 ≤ 60 ∧ -60 ≤ s.2 ∧ s.2 ≤ 60 := by
  unfold conds
  by_cases e : sh = []
  · rw [if_pos e]; intro s hs; simp at hs; subst hs; decide
  · rw [if_neg e]; exact h

theorem results_two {P : Program} {fn : Func} {p q : Tmp} {ty : TypeId} {fs : Array Field} (h : fn.results = #[.cell p ty,.cell q ty]) (tmps : Array Value) (w : World) (g g' : Nat) (t t' : TypeId) (cs ds : Array Value)
    (hp : tmps.getD p undef = .pointer (some ⟨g,0,none⟩)) (hq : tmps.getD q undef = .pointer (some ⟨g',0,none⟩)) (hg : Bk w g t cs) (hg' : Bk w g' t' ds)
    (hu : P.underlying ty = some (.struct fs)) (hi : (P.info? ty).map (·.size) = some cs.size) (hsz : cs.size = ds.size := by rfl) :
    (results fn tmps).run P w = .ok (.tuple #[.agg cs,.agg ds]) w := by
  have hp' : tmps[p]?.getD undef = .pointer (some ⟨g,0,none⟩) := by simpa using hp
  have hq' : tmps[q]?.getD undef = .pointer (some ⟨g',0,none⟩) := by simpa using hq
  simp [results,h,hp',hq',asAddr,run_loadVar_row w g t ty cs (0,0) _ hg hu rfl hi,run_loadVar_row w g' t' ty ds (0,0) _ hg' hu rfl (hsz ▸ hi)]

theorem own_cap {w : World} {B e size g n cap : Nat} {xs : List Value} (h : w.ownsRow B e size (.slice (some ⟨g,0,none⟩) n cap) n xs) : n ≤ cap := by
  rcases h.2 with ⟨e,_⟩ | ⟨g',cap',cur,hv,_,_,hnc,_⟩
  · cases e
  · cases hv; exact hnc
theorem rgCells_len : ∀ l : List R2,(rgCells l).length = l.length * 2
  | [] => rfl
  | x :: l => by simp [rgCells,rgCells_len l]; omega
theorem own_tail {w : World} {B e g n cap : Nat} {f : R2 → R2} {x : R2} {xs : List R2} (h : w.ownsRow B e 2 (.slice (some ⟨g,0,none⟩) n cap) n (rgCells (List.map f (x :: xs)))) :
    Rg w w.heap.size (if cap = 1 then some ⟨g,0,none⟩ else some ⟨g,2,none⟩) (List.map f xs) := by
  have hl := h.1
  rw [rgCells_len] at hl
  simp only [List.length_map,List.length_cons] at hl
  have hn : n = xs.length + 1 := by omega
  have hc := own_cap h
  intro k r hr
  have hk : k < xs.length := by
    have := (List.getElem?_eq_some_iff.1 hr).1
    simpa using this
  rw [if_neg (by omega)]
  obtain ⟨g',cap',e1,_,hlt⟩ := h.form (by omega)
  cases e1
  have h2 := rgCells_at (List.map f (x :: xs)) (k + 1) r (by simpa using hr)
  rw [show (k + 1) * 2 = 2 + k * 2 from by omega] at h2
  exact ⟨g,2,rfl,hlt,(h.cellAt (2 + k * 2) (by omega)).trans h2.1,(h.cellAt (2 + k * 2 + 1) (by omega)).trans h2.2⟩

set_option maxHeartbeats 1000000 in
set_option maxRecDepth 100000 in
theorem windows_any (J : Jb) (a : Option Addr) (n c : Nat) (w : World) (hJ : J.In 1000) (hn : n = J.sh.length) (h : Rg w w.heap.size a J.sh) :
    Calls Try.prog 65 #[.agg (jobC J (.slice a n c))] w (WinEnd J w) := by
  have hm : n ≤ 4 := by have := hJ.len; omega
  have HJ : Hid (J.In 1000) := hJ
  have Hn : Hid (n = J.sh.length) := hn
  clear hn
  have Hh : Hid (Rg w w.heap.size a J.sh) := h
  clear h
  have w1b := hJ.wi.1
  have w2b := hJ.wi.2
  obtain ⟨i0,hi,hz0,hz1,hz2⟩ := info_parts infoRange
  have Hi : Hid (Try.prog.info? 23 = some i0) := hi
  clear hi
  have Hz0 : Hid (i0.zero = some (.agg #[.int .i64 0,.int .i64 0])) := hz0
  have Hz1 : Hid (i0.size = 2) := hz1
  have Hz2 : Hid (i0.bytes = 16) := hz2
  clear hz0 hz1 hz2 hJ
  have b0 : Bk (((w.alloc (.cells (jobC J (.slice a n c)) 30)).alloc (.cells #[.int .i64 0,.int .i64 0] 23)).alloc (.cells #[.int .i64 0,.int .i64 0] 23)) w.heap.size 30 (jobC J (.slice a n c)) := ((Bk.new w _ _).alloc _).alloc _
  have b1 : Bk (((w.alloc (.cells (jobC J (.slice a n c)) 30)).alloc (.cells #[.int .i64 0,.int .i64 0] 23)).alloc (.cells #[.int .i64 0,.int .i64 0] 23)) (w.heap.size + 1) 23 #[.int .i64 0,.int .i64 0] := by
    have := Bk.new (w.alloc (.cells (jobC J (.slice a n c)) 30)) 23 #[.int .i64 0,.int .i64 0]
    rw [World.size_alloc] at this
    exact this.alloc _
  have b2 : Bk (((w.alloc (.cells (jobC J (.slice a n c)) 30)).alloc (.cells #[.int .i64 0,.int .i64 0] 23)).alloc (.cells #[.int .i64 0,.int .i64 0] 23)) (w.heap.size + 2) 23 #[.int .i64 0,.int .i64 0] := by
    have := Bk.new ((w.alloc (.cells (jobC J (.slice a n c)) 30)).alloc (.cells #[.int .i64 0,.int .i64 0] 23)) 23 #[.int .i64 0,.int .i64 0]
    simp only [World.size_alloc] at this
    exact this
  go_enter Try.func65,Try.ntmps65
  go_wp2_with (refine wpList_load_row rfl 30 _ rfl w.heap.size rfl _ (jobC J (.slice a n c)) _ _ b0 Try.underlying30 rfl szJob ?_)
  refine (conditions_any J a n c _ Hn.out hm (Hh.out.keep (by simp; omega) ?hk)).mono ?_
  case hk => intro p hp; rw [World.cell?_alloc_lt _ _ _ (by simp; omega),World.cell?_alloc_lt _ _ _ (by simp; omega),World.cell?_alloc_lt _ _ _ hp]
  rintro e w1 ⟨a',c',rfl,hrg,hb⟩
  have hB0 : Below w.heap.size w w1 := ((((Below.refl _ _).alloc (Nat.le_refl _) _).alloc (by simp) _).alloc (by simp; omega) _).trans (hb.mono (by simp; omega))
  have hz := hb.size
  simp only [World.size_alloc] at hz
  have k0 := b0.below hb (by simp; omega)
  have k1 := b1.below hb (by simp)
  have k2 := b2.below hb (by simp)
  clear b0 b1 b2 hb
  have HR : Hid (Rg w1 w1.heap.size a' (conds J.sh)) := hrg
  have HB0 : Hid (Below w.heap.size w w1) := hB0
  clear hrg hB0
  obtain ⟨hc1,hc2⟩ := conds_len J.sh HJ.out.len
  obtain ⟨m,Hm⟩ : ∃ m,Hid (m = (conds J.sh).length) := ⟨_,rfl⟩
  rw [← Hm.out] at hc1 hc2 ⊢
  go_wp2_with fail
  go_loopw [4,5,11] (fun v4 v5 i wr => ∃ k : Nat,k ≤ m ∧ i = .int .i64 k ∧ wr.ownsRow w1.heap.size 23 2 v4 k (rgCells (((conds J.sh).take k).map (sureOf J.wi))) ∧
      wr.ownsRow w1.heap.size 23 2 v5 k (rgCells (((conds J.sh).take k).map (possOf J.wi))) ∧ Dis v4 v5 ∧ Below w1.heap.size w1 wr) (fun _ _ i _ => m - (intOf i).toNat)
  case atStart =>
    exact ⟨0,Nat.zero_le _,rfl,World.ownsRow_nil _ _ _ _,World.ownsRow_nil _ _ _ _,(fun g h _ => by simp [Value.ownBlock] at h),Below.refl _ _⟩
  case round =>
    obtain ⟨k,hk,rfl,own4,own5,dis,hB⟩ := hrel
    have hs := hB.size
    have hl1 := k0.lt
    have q0 := k0.below hB (by omega)
    have c16 := q0.at_ 16 _ rfl
    have hl2 := q0.lt
    by_cases hlt : k < m
    · have hkl : k < (conds J.sh).length := by rw [← Hm.out]; exact hlt
      obtain ⟨b,off,rfl,hbl,e0,e1⟩ := HR.out k (conds J.sh)[k] (List.getElem?_eq_getElem hkl)
      replace e0 := (hB.cell (p := ⟨b,off + k * 2,none⟩) hbl).trans e0
      replace e1 := (hB.cell (p := ⟨b,off + k * 2 + 1,none⟩) hbl).trans e1
      have hbl' : b < wr.heap.size := by omega
      obtain ⟨s1,s2,s3,s4⟩ := conds_in J.sh HJ.out.sh _ (List.getElem_mem hkl)
      obtain ⟨s,Hs⟩ : ∃ s,Hid (s = (conds J.sh)[k]) := ⟨_,hidMk rfl⟩
      rw [← Hs.out] at s1 s2 s3 s4 e0 e1
      have Ho4 := hidMk own4
      have Ho5 := hidMk own5
      clear own4 own5
      go_wp2_with (first | (at_builtin; refine wpList_append_own_at _ rfl (.tmp 15) (.tmp 28) 28 rfl w1.heap.size 23 i0 (.agg #[.int .i64 0,.int .i64 0]) 2 16 Try.underlying28 Hi.out Hz0.out Hz1.out Hz2.out rfl (by decide) _ k _ rfl ((Ho4.out.alloc _).alloc _) ⟨wr.heap.size + 1,0,none⟩ 1 1 [.int .i64 (-J.wi - s.1),.int .i64 (J.wi - s.2)] rfl rfl (news_of_bk (two_newR wr _ _ _ _)) (by simp [Value.oneCell']) (by unfold maxLen; omega) (by omega) (by simp; omega) ?_; intro v4' w2 own4' hg4 _ at4; have hB2 : Below w1.heap.size w1 w2 := ((hB.alloc (by omega) _).alloc (by simp; omega) _).grown hg4 (by simp; omega) (fun g e => (Ho4.out.lt g e).1); have bx : Bk w2 wr.heap.size 23 #[.int .i64 s.1,.int .i64 s.2] := ((Bk.new wr _ _).alloc _).grown hg4 (fun e => by have := (Ho4.out.lt _ e.symm).2; omega); have d16 := (k0.below hB2 (by omega)).at_ 16 _ rfl; have x0 := bx.at_ 0 _ rfl; have x1 := bx.at_ 1 _ rfl; have hs2 : wr.heap.size + 2 ≤ w2.heap.size := (by have := hg4.size; simp at this; omega); have o5 := hidMk (own_step _ _ Ho5.out hg4 dis); have O4 := hidMk own4'; clear own4') | (at_builtin; refine wpList_append_own_at _ rfl (.tmp 30) (.tmp 43) 28 rfl w1.heap.size 23 i0 (.agg #[.int .i64 0,.int .i64 0]) 2 16 Try.underlying28 Hi.out Hz0.out Hz1.out Hz2.out rfl (by decide) _ k _ rfl (o5.out.alloc _) ⟨w2.heap.size,0,none⟩ 1 1 [.int .i64 (-J.wi - s.2),.int .i64 (J.wi - s.1)] rfl rfl (news_of_bk (Bk.new w2 _ _)) (by simp [Value.oneCell']) (by unfold maxLen; omega) (by omega) (by simp; omega) ?_; intro v5' w3 own5' hg5 _ at5; have hB3 : Below w1.heap.size w1 w3 := (hB2.alloc (by omega) _).grown hg5 (by simp; omega) (fun g e => (o5.out.lt g e).1); have O5 := hidMk own5'; clear own5'))
      go_roundw
      case rel =>
        have ds := dis_step Ho5.out dis (by simp; omega) at4
        have ds' : Dis v4' v5' := (dis_step (O4.out.alloc _) ds.symm (Nat.le_refl _) at5).symm
        refine ⟨k + 1,by omega,by go_num,?_,?_,ds',hB3⟩
        · rw [take_snoc _ k hkl,List.map_append,rgCells_snoc_map,← Hs.out]
          exact (O4.out.alloc _).kept hg5 (by
            cases e : v4'.ownBlock with
            | none => exact .inl rfl
            | some g => exact .inr fun e' => ds g e e'.symm)
        · rw [take_snoc _ k hkl,List.map_append,rgCells_snoc_map,← Hs.out]
          exact O5.out
      case measure => simp [intOf]; omega
    · obtain rfl : k = m := by omega
      have el : (conds J.sh).take k = conds J.sh := by rw [Hm.out]; exact List.take_length
      rw [el] at own4 own5
      obtain ⟨g4,cap4,rfl,hb4,hlt4⟩ := own4.form (by omega)
      obtain ⟨g5,cap5,rfl,hb5,hlt5⟩ := own5.form (by omega)
      have q1 := k1.below hB (by omega)
      have q2 := k2.below hB (by omega)
      clear el c16
      obtain ⟨x0,xs,hx⟩ : ∃ x xs,conds J.sh = x :: xs := by
        cases e : conds J.sh with
        | nil => rw [e] at Hm; have := Hm.out; simp at this; omega
        | cons x xs => exact ⟨x,xs,rfl⟩
      rw [hx] at own4 own5
      have hcap4 := own_cap own4
      have hcap5 := own_cap own5
      have c40 := (own4.cellAt 0 (by omega)).trans (show (rgCells (List.map (sureOf J.wi) (x0 :: xs)))[0]? = some (.int .i64 (sureOf J.wi x0).1) from rfl)
      have c41 := (own4.cellAt 1 (by omega)).trans (show (rgCells (List.map (sureOf J.wi) (x0 :: xs)))[1]? = some (.int .i64 (sureOf J.wi x0).2) from rfl)
      have c50 := (own5.cellAt 0 (by omega)).trans (show (rgCells (List.map (possOf J.wi) (x0 :: xs)))[0]? = some (.int .i64 (possOf J.wi x0).1) from rfl)
      have c51 := (own5.cellAt 1 (by omega)).trans (show (rgCells (List.map (possOf J.wi) (x0 :: xs)))[1]? = some (.int .i64 (possOf J.wi x0).2) from rfl)
      have T4 := hidMk (own_tail own4)
      have T5 := hidMk (own_tail own5)
      have Hx := hidMk hx
      have Q1 := hidMk q1
      have Q2 := hidMk q2
      have HB := hidMk hB
      clear hx own4 own5 q1 q2 hB dis k0 k1 k2 q0
      have hlen : Hid (xs.length + 1 = k) := by show xs.length + 1 = k; have := Hm.out; rw [Hx.out] at this; simpa using this.symm
      have i0 : 0 < k := by omega
      have i1 : (0 : Int) < ↑k := by omega
      have i2 : (1 : Int) ≤ ↑k := by omega
      have i3 : (↑k : Int) ≤ ↑cap4 := by omega
      have i4 : (↑k : Int) ≤ ↑cap5 := by omega
      have hC : Below wr.heap.size wr wr := Below.refl _ _
      obtain ⟨A4,hd4⟩ : ∃ A,(if cap4 = 1 then some (⟨g4,0,none⟩ : Addr) else some ⟨g4,2,none⟩) = A := ⟨_,rfl⟩
      obtain ⟨A5,hd5⟩ : ∃ A,(if cap5 = 1 then some (⟨g5,0,none⟩ : Addr) else some ⟨g5,2,none⟩) = A := ⟨_,rfl⟩
      have t4 := T4.out
      rw [hd4] at t4
      have t5 := T5.out
      rw [hd5] at t5
      have R4 := hidMk t4
      have R5 := hidMk t5
      clear t4 t5 T4 T5
      go_wp2_with fail
      go_region_held3 (fun w' => w'.cell? ⟨g4,0,none⟩ = some (.int .i64 (sureOf J.wi x0).1) ∧ w'.cell? ⟨g4,1,none⟩ = some (.int .i64 (sureOf J.wi x0).2) ∧ w'.cell? ⟨g5,0,none⟩ = some (.int .i64 (possOf J.wi x0).1) ∧ w'.cell? ⟨g5,1,none⟩ = some (.int .i64 (possOf J.wi x0).2)) (first | exact ⟨u0,u1,u2,u3⟩ | exact ⟨c40,c41,c50,c51⟩ | (simp (disch := omega) only [cell_other]; exact ⟨u0,u1,u2,u3⟩) | go_keep)
        (first | (go_at_call 88; refine (meet_any _ _ _ _ _ (List.map (sureOf J.wi) xs) _ ?_ ?_ ?_).mono ?_; (rw [List.length_map]; have := hlen.out; omega); omega; (first | exact R4.out.up hC | exact R4.out.up hC.drew); rintro e w2 ⟨rfl,hb⟩; have hC' : Below wr.heap.size wr w2 := (by first | exact chainB hC (Nat.le_refl _) hb | exact chainB hC.drew (Nat.le_refl _) hb); clear hC; have hC := hC'; clear hC'; have hz9 := hC.size; have hg4 : g4 < w2.heap.size := (by omega); have hg5 : g5 < w2.heap.size := (by omega); have u0 := (hC.cell (p := ⟨g4,0,none⟩) hlt4).trans c40; have u1 := (hC.cell (p := ⟨g4,1,none⟩) hlt4).trans c41; have u2 := (hC.cell (p := ⟨g5,0,none⟩) hlt5).trans c50; have u3 := (hC.cell (p := ⟨g5,1,none⟩) hlt5).trans c51; have p1 := Q1.out.below hC (by omega); have p2 := Q2.out.below hC (by omega); have r10 := p1.at_ 0 _ rfl; have r11 := p1.at_ 1 _ rfl; have r20 := p2.at_ 0 _ rfl; have r21 := p2.at_ 1 _ rfl; have s10 := p1.free 0; have s11 := p1.free 1; have s20 := p2.free 0; have s21 := p2.free 1; clear p1 p2) | (go_at_call 88; refine (meet_any _ _ _ _ _ (List.map (possOf J.wi) xs) _ ?_ ?_ ?_).mono ?_; (rw [List.length_map]; have := hlen.out; omega); omega; (first | exact R5.out.up hC | exact R5.out.up hC.drew); rintro e w2 ⟨rfl,hb⟩; have hC' : Below wr.heap.size wr w2 := (by first | exact chainB hC (Nat.le_refl _) hb | exact chainB hC.drew (Nat.le_refl _) hb); clear hC; have hC := hC'; clear hC'; have hz9 := hC.size; have hg4 : g4 < w2.heap.size := (by omega); have hg5 : g5 < w2.heap.size := (by omega); have u0 := (hC.cell (p := ⟨g4,0,none⟩) hlt4).trans c40; have u1 := (hC.cell (p := ⟨g4,1,none⟩) hlt4).trans c41; have u2 := (hC.cell (p := ⟨g5,0,none⟩) hlt5).trans c50; have u3 := (hC.cell (p := ⟨g5,1,none⟩) hlt5).trans c51; have p1 := Q1.out.below hC (by omega); have p2 := Q2.out.below hC (by omega); have r10 := p1.at_ 0 _ rfl; have r11 := p1.at_ 1 _ rfl; have r20 := p2.at_ 0 _ rfl; have r21 := p2.at_ 1 _ rfl; have s10 := p1.free 0; have s11 := p1.free 1; have s20 := p2.free 0; have s21 := p2.free 1; clear p1 p2))
      go_wp2
      have e4 : meetL ((sureOf J.wi x0).1,(sureOf J.wi x0).2) (List.map (sureOf J.wi) xs) = win J.wi J.sh := by unfold win; rw [Hx.out]; rfl
      have e5 : meetL ((possOf J.wi x0).1,(possOf J.wi x0).2) (List.map (possOf J.wi) xs) = pos J.wi J.sh := by unfold pos; rw [Hx.out]; rfl
      rw [e4,e5]
      have P1 := ((((Q1.out.below hC (by omega)).put2 (.int .i64 (win J.wi J.sh).1) (.int .i64 (win J.wi J.sh).2)).other (p := ⟨w.heap.size + 1 + 1,0,none⟩) (by simp) (.int .i64 (pos J.wi J.sh).1)).other (p := ⟨w.heap.size + 1 + 1,1,none⟩) (by simp) (.int .i64 (pos J.wi J.sh).2))
      have P2 := ((((Q2.out.below hC (by omega)).other (p := ⟨w.heap.size + 1,0,none⟩) (by simp) (.int .i64 (win J.wi J.sh).1)).other (p := ⟨w.heap.size + 1,1,none⟩) (by simp) (.int .i64 (win J.wi J.sh).2)).put2 (.int .i64 (pos J.wi J.sh).1) (.int .i64 (pos J.wi J.sh).2))
      refine bodyPost_ret (results_two Try.results65 _ _ _ _ _ _ _ _ rfl rfl P1 P2 Try.underlying23 szRange) rfl ⟨rfl,?_⟩
      refine Below.setCell (Below.setCell (Below.setCell (Below.setCell ?_ (by simp) _) (by simp) _) (by simp; omega) _) (by simp; omega) _
      exact (HB0.out.trans (HB.out.mono (by omega))).trans (hC.mono (by omega))
end Go.Proofs.Ytolabejbhaeddaa
/- Contracts of the checks of package reed. -/
namespace Go.Proofs.Ytolabejbhaeddaa
set_option linter.all false
open Go.RowKit

theorem rng_first (a b lo hi : Int) : firstE [numE a lo hi,numE b lo hi] = (if a < lo ∨ hi < a then 1 else if b < lo ∨ hi < b then 1 else 0) := by
  unfold firstE firstE firstE numE
  by_cases h1 : a < lo ∨ hi < a <;> by_cases h2 : b < lo ∨ hi < b <;> simp [h1,h2]

theorem two_new (w : World) (C D : Array Value) (t u : TypeId) : Bk ((w.alloc (.cells C t)).alloc (.cells D u)) (w.heap.size + 1) u D := by
  have := Bk.new (w.alloc (.cells C t)) u D
  rwa [World.size_alloc] at this

set_option maxHeartbeats 400000 in
theorem checkRange_any (a b lo hi : Int) (w : World) :
    Calls Try.prog 75 #[.agg #[.int .i64 a,.int .i64 b],.int .i64 lo,.int .i64 hi] w fun e w' => e = .returned (.int .i64 (rngE a b lo hi)) ∧ Below w.heap.size w w' := by
  by_cases h0 : firstE [numE a lo hi,numE b lo hi] = 0
  · have hb : (firstE [numE a lo hi,numE b lo hi] == 0) = true := by simp [h0]
    have He : Hid (rngE a b lo hi = if b < a then 5 else 0) := by
      show rngE a b lo hi = if b < a then 5 else 0
      rw [rng_first] at h0
      unfold rngE
      by_cases h1 : a < lo ∨ hi < a <;> by_cases h2 : b < lo ∨ hi < b <;> simp [h1,h2] at h0 ⊢
    have H0 : Hid (firstE [numE a lo hi,numE b lo hi] = 0) := h0
    clear h0
    by_cases hba : b < a
    · go_enter Try.func75,Try.ntmps75
      go_wp2_with fail
      go_region_held3 (fun w' => w'.cell? ⟨w.heap.size,0,none⟩ = some (.int .i64 a) ∧ w'.cell? ⟨w.heap.size,1,none⟩ = some (.int .i64 b)) (go_keep)
        (first | (go_at_call 76; refine (checkNumber_any _ _ _ _).mono ?_; rintro e w' ⟨rfl,rfl⟩) | (go_at_call 74; refine (first_any _ _ _ [numE a lo hi,numE b lo hi] _ rfl (by simp) ?_).mono ?_; (exact Is.of_bk (g := w.heap.size + 1) (t := 39) _ (two_new w _ _ _ _) (by simp)); rintro e w' ⟨rfl,rfl⟩))
      go_wp2_with (go_at_call 66; refine (empty_any _ _ _).mono ?_; rintro e w' ⟨rfl,rfl⟩)
      go_ret
      refine ⟨ret_i (by rw [He.out,if_pos hba]),?_⟩
      exact ((((Below.refl _ _).alloc (Nat.le_refl _) _).alloc (by simp) _).alloc (by simp; omega) _).drew
    · go_enter Try.func75,Try.ntmps75
      go_wp2_with fail
      go_region_held3 (fun w' => w'.cell? ⟨w.heap.size,0,none⟩ = some (.int .i64 a) ∧ w'.cell? ⟨w.heap.size,1,none⟩ = some (.int .i64 b)) (go_keep)
        (first | (go_at_call 76; refine (checkNumber_any _ _ _ _).mono ?_; rintro e w' ⟨rfl,rfl⟩) | (go_at_call 74; refine (first_any _ _ _ [numE a lo hi,numE b lo hi] _ rfl (by simp) ?_).mono ?_; (exact Is.of_bk (g := w.heap.size + 1) (t := 39) _ (two_new w _ _ _ _) (by simp)); rintro e w' ⟨rfl,rfl⟩))
      go_wp2_with (go_at_call 66; refine (empty_any _ _ _).mono ?_; rintro e w' ⟨rfl,rfl⟩)
      go_ret
      refine ⟨ret_i (by rw [He.out,H0.out,if_neg (by omega)]),?_⟩
      exact ((((Below.refl _ _).alloc (Nat.le_refl _) _).alloc (by simp) _).alloc (by simp; omega) _).drew
  · have hb : (firstE [numE a lo hi,numE b lo hi] == 0) = false := by simp [h0]
    have He : Hid (rngE a b lo hi = firstE [numE a lo hi,numE b lo hi]) := by
      show rngE a b lo hi = firstE [numE a lo hi,numE b lo hi]
      rw [rng_first] at h0 ⊢
      unfold rngE
      by_cases h1 : a < lo ∨ hi < a <;> by_cases h2 : b < lo ∨ hi < b <;> simp [h1,h2] at h0 ⊢
    clear h0
    go_enter Try.func75,Try.ntmps75
    go_wp2_with fail
    go_region_held3 (fun w' => w'.cell? ⟨w.heap.size,0,none⟩ = some (.int .i64 a) ∧ w'.cell? ⟨w.heap.size,1,none⟩ = some (.int .i64 b)) (go_keep)
      (first | (go_at_call 76; refine (checkNumber_any _ _ _ _).mono ?_; rintro e w' ⟨rfl,rfl⟩) | (go_at_call 74; refine (first_any _ _ _ [numE a lo hi,numE b lo hi] _ rfl (by simp) ?_).mono ?_; (exact Is.of_bk (g := w.heap.size + 1) (t := 39) _ (two_new w _ _ _ _) (by simp)); rintro e w' ⟨rfl,rfl⟩))
    go_wp2_with (go_at_call 66; refine (empty_any _ _ _).mono ?_; rintro e w' ⟨rfl,rfl⟩)
    go_ret
    refine ⟨ret_i (by rw [He.out]),?_⟩
    exact (((Below.refl _ _).alloc (Nat.le_refl _) _).alloc (by simp) _).drew

theorem head_first (J : Jb) : firstE [rngE J.p1 J.p2 (-60) 60,rngE J.t1 J.t2 0 100,rngE J.r1 J.r2 0 100,rngE J.u1 J.u2 0 12,rngE J.d1 J.d2 0 12,rngE J.x1 J.x2 0 12,rngE J.y1 J.y2 0 12,numE J.le 0 100] = J.head := rfl

set_option maxHeartbeats 1000000 in
set_option maxRecDepth 100000 in
theorem check_bad (J : Jb) (a : Option Addr) (n c : Nat) (w : World) (hj : J.head ≠ 0) :
    Calls Try.prog 47 #[.agg (jobC J (.slice a n c))] w fun e w' => e = .returned (.int .i64 J.head) ∧ Below w.heap.size w w' := by
  have hbad : (firstE [rngE J.p1 J.p2 (-60) 60,rngE J.t1 J.t2 0 100,rngE J.r1 J.r2 0 100,rngE J.u1 J.u2 0 12,rngE J.d1 J.d2 0 12,rngE J.x1 J.x2 0 12,rngE J.y1 J.y2 0 12,numE J.le 0 100] != 0) = true := by rw [head_first]; simpa using hj
  clear hj
  go_enter Try.func47,Try.ntmps47
  go_wp2_with fail
  have hk0 := Bk.new w 30 (jobC J (.slice a n c))
  have hB : Below (w.heap.size + 1) (w.alloc (.cells (jobC J (.slice a n c)) 30)) (w.alloc (.cells (jobC J (.slice a n c)) 30)) := Below.refl _ _
  go_region_held3 (fun w' => w'.cell? ⟨w.heap.size,0,none⟩ = some (.int .i64 J.p1) ∧ w'.cell? ⟨w.heap.size,1,none⟩ = some (.int .i64 J.p2) ∧ w'.cell? ⟨w.heap.size,2,none⟩ = some (.int .i64 J.t1) ∧ w'.cell? ⟨w.heap.size,3,none⟩ = some (.int .i64 J.t2) ∧ w'.cell? ⟨w.heap.size,4,none⟩ = some (.int .i64 J.r1) ∧ w'.cell? ⟨w.heap.size,5,none⟩ = some (.int .i64 J.r2) ∧ w'.cell? ⟨w.heap.size,6,none⟩ = some (.int .i64 J.u1) ∧ w'.cell? ⟨w.heap.size,7,none⟩ = some (.int .i64 J.u2) ∧ w'.cell? ⟨w.heap.size,8,none⟩ = some (.int .i64 J.d1) ∧ w'.cell? ⟨w.heap.size,9,none⟩ = some (.int .i64 J.d2) ∧ w'.cell? ⟨w.heap.size,10,none⟩ = some (.int .i64 J.x1) ∧ w'.cell? ⟨w.heap.size,11,none⟩ = some (.int .i64 J.x2) ∧ w'.cell? ⟨w.heap.size,12,none⟩ = some (.int .i64 J.y1) ∧ w'.cell? ⟨w.heap.size,13,none⟩ = some (.int .i64 J.y2) ∧ w'.cell? ⟨w.heap.size,14,none⟩ = some (.int .i64 J.le)) (go_keep)
    (first | (go_at_call 75; refine (checkRange_any _ _ _ _ _).mono ?_; rintro e w' ⟨rfl,hb⟩; obtain ⟨hc,hf⟩ := bcell hb; (have hB' := (by first | exact chainB hB (by simp) hb | exact chainB hB.drew (by simp) hb : Below (w.heap.size + 1) (w.alloc (.cells (jobC J (.slice a n c)) 30)) w')); clear hB; have hB := hB'; clear hB'; (have hz : w.heap.size < w'.heap.size := by have := hB.size; (try simp at this); omega)) | (go_at_call 76; refine (checkNumber_any _ _ _ _).mono ?_; rintro e w' ⟨rfl,rfl⟩) | (go_at_call 74; refine (first_any _ _ _ [rngE J.p1 J.p2 (-60) 60,rngE J.t1 J.t2 0 100,rngE J.r1 J.r2 0 100,rngE J.u1 J.u2 0 12,rngE J.d1 J.d2 0 12,rngE J.x1 J.x2 0 12,rngE J.y1 J.y2 0 12,numE J.le 0 100] _ rfl (by simp) ?_).mono ?_; (first | exact Is.of_bk _ (Bk.new _ _ _) (by simp) | exact Is.of_bk _ (Bk.new _ _ _).drew (by simp)); rintro e w' ⟨rfl,rfl⟩))
  go_wp2
  go_ret
  exact ⟨ret_i (head_first J),(((Below.refl _ _).alloc (Nat.le_refl _) _).trans (hB.mono (by omega))).alloc (by omega) _⟩

set_option maxHeartbeats 1000000 in
set_option maxRecDepth 100000 in
theorem check_many (J : Jb) (a : Option Addr) (n c : Nat) (w : World) (hj : J.head = 0) (hn : 4 < n) (hm : n ≤ 9223372036854775807) :
    Calls Try.prog 47 #[.agg (jobC J (.slice a n c))] w fun e w' => e = .returned (.int .i64 6) ∧ Below w.heap.size w w' := by
  have hbad : (firstE [rngE J.p1 J.p2 (-60) 60,rngE J.t1 J.t2 0 100,rngE J.r1 J.r2 0 100,rngE J.u1 J.u2 0 12,rngE J.d1 J.d2 0 12,rngE J.x1 J.x2 0 12,rngE J.y1 J.y2 0 12,numE J.le 0 100] != 0) = false := by rw [head_first]; simpa using hj
  clear hj
  go_enter Try.func47,Try.ntmps47
  go_wp2_with fail
  have hk0 := Bk.new w 30 (jobC J (.slice a n c))
  have hB : Below (w.heap.size + 1) (w.alloc (.cells (jobC J (.slice a n c)) 30)) (w.alloc (.cells (jobC J (.slice a n c)) 30)) := Below.refl _ _
  go_region_held3 (fun w' => w'.cell? ⟨w.heap.size,0,none⟩ = some (.int .i64 J.p1) ∧ w'.cell? ⟨w.heap.size,1,none⟩ = some (.int .i64 J.p2) ∧ w'.cell? ⟨w.heap.size,2,none⟩ = some (.int .i64 J.t1) ∧ w'.cell? ⟨w.heap.size,3,none⟩ = some (.int .i64 J.t2) ∧ w'.cell? ⟨w.heap.size,4,none⟩ = some (.int .i64 J.r1) ∧ w'.cell? ⟨w.heap.size,5,none⟩ = some (.int .i64 J.r2) ∧ w'.cell? ⟨w.heap.size,6,none⟩ = some (.int .i64 J.u1) ∧ w'.cell? ⟨w.heap.size,7,none⟩ = some (.int .i64 J.u2) ∧ w'.cell? ⟨w.heap.size,8,none⟩ = some (.int .i64 J.d1) ∧ w'.cell? ⟨w.heap.size,9,none⟩ = some (.int .i64 J.d2) ∧ w'.cell? ⟨w.heap.size,10,none⟩ = some (.int .i64 J.x1) ∧ w'.cell? ⟨w.heap.size,11,none⟩ = some (.int .i64 J.x2) ∧ w'.cell? ⟨w.heap.size,12,none⟩ = some (.int .i64 J.y1) ∧ w'.cell? ⟨w.heap.size,13,none⟩ = some (.int .i64 J.y2) ∧ w'.cell? ⟨w.heap.size,14,none⟩ = some (.int .i64 J.le)) (go_keep)
    (first | (go_at_call 75; refine (checkRange_any _ _ _ _ _).mono ?_; rintro e w' ⟨rfl,hb⟩; obtain ⟨hc,hf⟩ := bcell hb; (have hB' := (by first | exact chainB hB (by simp) hb | exact chainB hB.drew (by simp) hb : Below (w.heap.size + 1) (w.alloc (.cells (jobC J (.slice a n c)) 30)) w')); clear hB; have hB := hB'; clear hB'; (have hz : w.heap.size < w'.heap.size := by have := hB.size; (try simp at this); omega)) | (go_at_call 76; refine (checkNumber_any _ _ _ _).mono ?_; rintro e w' ⟨rfl,rfl⟩) | (go_at_call 74; refine (first_any _ _ _ [rngE J.p1 J.p2 (-60) 60,rngE J.t1 J.t2 0 100,rngE J.r1 J.r2 0 100,rngE J.u1 J.u2 0 12,rngE J.d1 J.d2 0 12,rngE J.x1 J.x2 0 12,rngE J.y1 J.y2 0 12,numE J.le 0 100] _ rfl (by simp) ?_).mono ?_; (first | exact Is.of_bk _ (Bk.new _ _ _) (by simp) | exact Is.of_bk _ (Bk.new _ _ _).drew (by simp)); rintro e w' ⟨rfl,rfl⟩))
  have hk := hk0.below hB (by omega)
  have c15 := hk.at_ 15 _ rfl
  clear hk0 hk
  go_wp2
  go_ret
  exact ⟨rfl,(((Below.refl _ _).alloc (Nat.le_refl _) _).trans (hB.mono (by omega))).alloc (by omega) _⟩

end Go.Proofs.Ytolabejbhaeddaa
/- The contract of reed.Check. -/
namespace Go.Proofs.Ytolabejbhaeddaa
set_option linter.all false
open Go.RowKit

set_option maxHeartbeats 2000000 in
set_option maxRecDepth 100000 in
theorem check_few (J : Jb) (a : Option Addr) (n c : Nat) (w : World) (hj : J.head = 0) (hn : n = J.sh.length) (hm : n ≤ 4) (h : Rg w w.heap.size a J.sh) :
    Calls Try.prog 47 #[.agg (jobC J (.slice a n c))] w fun e w' => e = .returned (.int .i64 J.check) ∧ Below w.heap.size w w' := by
  have hbad : (firstE [rngE J.p1 J.p2 (-60) 60,rngE J.t1 J.t2 0 100,rngE J.r1 J.r2 0 100,rngE J.u1 J.u2 0 12,rngE J.d1 J.d2 0 12,rngE J.x1 J.x2 0 12,rngE J.y1 J.y2 0 12,numE J.le 0 100] != 0) = false := by rw [head_first]; simpa using hj
  have Hj : Hid (J.check = if shE J.sh = 0 then firstE [numE J.wi 0 60,numE J.me 0 6] else shE J.sh) := by
    show J.check = if shE J.sh = 0 then firstE [numE J.wi 0 60,numE J.me 0 6] else shE J.sh
    unfold Jb.check
    rw [if_pos hj,if_neg (by omega)]
  clear hj
  have Hn : Hid (n = J.sh.length) := hn
  clear hn
  have Hh : Hid (Rg w w.heap.size a J.sh) := h
  clear h
  go_enter Try.func47,Try.ntmps47
  go_wp2_with fail
  have hk0 := Bk.new w 30 (jobC J (.slice a n c))
  have hB : Below (w.heap.size + 1) (w.alloc (.cells (jobC J (.slice a n c)) 30)) (w.alloc (.cells (jobC J (.slice a n c)) 30)) := Below.refl _ _
  go_region_held3 (fun w' => w'.cell? ⟨w.heap.size,0,none⟩ = some (.int .i64 J.p1) ∧ w'.cell? ⟨w.heap.size,1,none⟩ = some (.int .i64 J.p2) ∧ w'.cell? ⟨w.heap.size,2,none⟩ = some (.int .i64 J.t1) ∧ w'.cell? ⟨w.heap.size,3,none⟩ = some (.int .i64 J.t2) ∧ w'.cell? ⟨w.heap.size,4,none⟩ = some (.int .i64 J.r1) ∧ w'.cell? ⟨w.heap.size,5,none⟩ = some (.int .i64 J.r2) ∧ w'.cell? ⟨w.heap.size,6,none⟩ = some (.int .i64 J.u1) ∧ w'.cell? ⟨w.heap.size,7,none⟩ = some (.int .i64 J.u2) ∧ w'.cell? ⟨w.heap.size,8,none⟩ = some (.int .i64 J.d1) ∧ w'.cell? ⟨w.heap.size,9,none⟩ = some (.int .i64 J.d2) ∧ w'.cell? ⟨w.heap.size,10,none⟩ = some (.int .i64 J.x1) ∧ w'.cell? ⟨w.heap.size,11,none⟩ = some (.int .i64 J.x2) ∧ w'.cell? ⟨w.heap.size,12,none⟩ = some (.int .i64 J.y1) ∧ w'.cell? ⟨w.heap.size,13,none⟩ = some (.int .i64 J.y2) ∧ w'.cell? ⟨w.heap.size,14,none⟩ = some (.int .i64 J.le)) (go_keep)
    (first | (go_at_call 75; refine (checkRange_any _ _ _ _ _).mono ?_; rintro e w' ⟨rfl,hb⟩; obtain ⟨hc,hf⟩ := bcell hb; (have hB' := (by first | exact chainB hB (by simp) hb | exact chainB hB.drew (by simp) hb : Below (w.heap.size + 1) (w.alloc (.cells (jobC J (.slice a n c)) 30)) w')); clear hB; have hB := hB'; clear hB'; (have hz : w.heap.size < w'.heap.size := by have := hB.size; (try simp at this); omega)) | (go_at_call 76; refine (checkNumber_any _ _ _ _).mono ?_; rintro e w' ⟨rfl,rfl⟩) | (go_at_call 74; refine (first_any _ _ _ [rngE J.p1 J.p2 (-60) 60,rngE J.t1 J.t2 0 100,rngE J.r1 J.r2 0 100,rngE J.u1 J.u2 0 12,rngE J.d1 J.d2 0 12,rngE J.x1 J.x2 0 12,rngE J.y1 J.y2 0 12,numE J.le 0 100] _ rfl (by simp) ?_).mono ?_; (first | exact Is.of_bk _ (Bk.new _ _ _) (by simp) | exact Is.of_bk _ (Bk.new _ _ _).drew (by simp)); rintro e w' ⟨rfl,rfl⟩))
  have hk := hk0.below hB (by omega)
  have c15 := hk.at_ 15 _ rfl
  have hB1 : Below w.heap.size w w' := ((Below.refl _ _).alloc (Nat.le_refl _) _).trans (hB.mono (by omega))
  clear hk0 hB
  go_wp2
  go_loopw [51] (fun i wr => ∃ k : Nat,k ≤ n ∧ i = .int .i64 k ∧ shE J.sh = shE (J.sh.drop k) ∧ Bk wr w.heap.size 30 (jobC J (.slice a n c)) ∧ Below w.heap.size w wr) (fun i _ => n - (intOf i).toNat)
  case atStart => exact ⟨0,Nat.zero_le _,rfl,rfl,hk.alloc _,hB1.alloc (by omega) _⟩
  case round =>
    clear hB1 hk c15 hbad
    obtain ⟨k,hk,rfl,hf,hj,hB⟩ := hrel
    have Hf : Hid (shE J.sh = shE (J.sh.drop k)) := hf
    clear hf
    have hz := hB.size
    have hl := hj.lt
    by_cases hlt : k < n
    · have hkl : k < J.sh.length := by rw [← Hn.out]; exact hlt
      obtain ⟨b,off,rfl,hbl,e0,e1⟩ := Hh.out k J.sh[k] (List.getElem?_eq_getElem hkl)
      replace e0 := (hB.cell (p := ⟨b,off + k * 2,none⟩) hbl).trans e0
      replace e1 := (hB.cell (p := ⟨b,off + k * 2 + 1,none⟩) hbl).trans e1
      have hbl' : b < wr.heap.size := by omega
      have Hd : Hid (J.sh.drop k = J.sh[k] :: J.sh.drop (k + 1)) := List.drop_eq_getElem_cons hkl
      by_cases hz0 : rngE J.sh[k].1 J.sh[k].2 (-60) 60 = 0
      · have hz1 : (rngE J.sh[k].1 J.sh[k].2 (-60) 60 != 0) = false := by simp [hz0]
        have Hz : Hid (rngE J.sh[k].1 J.sh[k].2 (-60) 60 = 0) := hz0
        clear hz0
        go_wp2_with (go_at_call 75; refine (checkRange_any _ _ _ _ _).mono ?_; rintro e w2 ⟨rfl,hb⟩)
        go_roundw
        case rel => exact ⟨k + 1,by omega,by go_num,by rw [Hf.out,Hd.out,shE,if_pos Hz.out],(hj.alloc _).below hb (by simp; omega),(hB.alloc (by omega) _).trans (hb.mono (by simp; omega))⟩
        case measure => simp [intOf]; omega
      · have hz1 : (rngE J.sh[k].1 J.sh[k].2 (-60) 60 != 0) = true := by simp [hz0]
        have Hz : Hid (¬ rngE J.sh[k].1 J.sh[k].2 (-60) 60 = 0) := hz0
        clear hz0
        go_wp2_with (go_at_call 75; refine (checkRange_any _ _ _ _ _).mono ?_; rintro e w2 ⟨rfl,hb⟩)
        go_ret
        have e : shE J.sh = rngE J.sh[k].1 J.sh[k].2 (-60) 60 := by rw [Hf.out,Hd.out,shE,if_neg Hz.out]
        exact ⟨ret_i (by rw [Hj.out,e,if_neg Hz.out]),(hB.alloc (by omega) _).trans (hb.mono (by simp; omega))⟩
    · obtain rfl : k = n := by omega
      have c16 := hj.at_ 16 _ rfl
      have c17 := hj.at_ 17 _ rfl
      go_wp2_with fail
      go_region_held3 (fun w' => w'.cell? ⟨w.heap.size,16,none⟩ = some (.int .i64 J.wi) ∧ w'.cell? ⟨w.heap.size,17,none⟩ = some (.int .i64 J.me)) (go_keep)
        (first | (go_at_call 76; refine (checkNumber_any _ _ _ _).mono ?_; rintro e w' ⟨rfl,rfl⟩) | (go_at_call 74; refine (first_any _ _ _ [numE J.wi 0 60,numE J.me 0 6] _ rfl (by simp) ?_).mono ?_; (first | exact Is.of_bk _ (Bk.new _ _ _) (by simp) | exact Is.of_bk _ (Bk.new _ _ _).drew (by simp)); rintro e w' ⟨rfl,rfl⟩))
      go_wp2
      go_ret
      have e : shE J.sh = 0 := by rw [Hf.out,List.drop_of_length_le (by rw [← Hn.out]; omega)]; rfl
      exact ⟨ret_i (by rw [Hj.out,if_pos e]),(hB.alloc (by omega) _).drew⟩

theorem check_any (J : Jb) (a : Option Addr) (n c : Nat) (w : World) (hn : n = J.sh.length) (hm : n ≤ 9223372036854775807) (h : Rg w w.heap.size a J.sh) :
    Calls Try.prog 47 #[.agg (jobC J (.slice a n c))] w fun e w' => e = .returned (.int .i64 J.check) ∧ Below w.heap.size w w' := by
  by_cases hj : J.head = 0
  · by_cases h4 : 4 < n
    · have e : J.check = 6 := by unfold Jb.check; rw [if_pos hj,if_pos (by omega)]
      rw [e]
      exact check_many J a n c w hj h4 hm
    · exact check_few J a n c w hj hn (by omega) h
  · have e : J.check = J.head := by unfold Jb.check; rw [if_neg hj]
    rw [e]
    exact check_bad J a n c w hj
end Go.Proofs.Ytolabejbhaeddaa
/- Contracts of what strokes do (package reed). -/
namespace Go.Proofs.Ytolabejbhaeddaa
set_option linter.all false
open Go.RowKit

/-- Numbers of a tongue lie within n. -/
def Tg.In (t : Tg) (n : Int) : Prop := -n ≤ t.p1 ∧ t.p1 ≤ n ∧ -n ≤ t.p2 ∧ t.p2 ≤ n ∧ -n ≤ t.t1 ∧ t.t1 ≤ n ∧ -n ≤ t.t2 ∧ t.t2 ≤ n ∧ -n ≤ t.r1 ∧ t.r1 ≤ n ∧ -n ≤ t.r2 ∧ t.r2 ≤ n

theorem three_new (w : World) (A B C : Array Value) (t u v : TypeId) : Bk (((w.alloc (.cells A t)).alloc (.cells B u)).alloc (.cells C v)) w.heap.size t A ∧ Bk (((w.alloc (.cells A t)).alloc (.cells B u)).alloc (.cells C v)) (w.heap.size + 1) u B ∧
    Bk (((w.alloc (.cells A t)).alloc (.cells B u)).alloc (.cells C v)) (w.heap.size + 2) v C := by
  have h1 := Bk.new (w.alloc (.cells A t)) u B
  have h2 := Bk.new ((w.alloc (.cells A t)).alloc (.cells B u)) v C
  simp only [World.size_alloc] at h1 h2
  exact ⟨((Bk.new w t A).alloc _).alloc _,h1.alloc _,h2⟩

set_option maxHeartbeats 1000000 in
set_option maxRecDepth 100000 in
theorem stroked_tip (J : Jb) (s : Value) (w : World) (h : J.In 1000) :
    Calls Try.prog 89 #[.agg (jobC J s),.int .i64 1] w fun e w' => e = .returned (.agg (tonC (strk J J.tg 1))) ∧ Below w.heap.size w w' := by
  obtain ⟨⟨p1,p1'⟩,⟨p2,p2'⟩,⟨t1,t1'⟩,⟨t2,t2'⟩,⟨r1,r1'⟩,⟨r2,r2'⟩,⟨u1,u1'⟩,⟨u2,u2'⟩,⟨d1,d1'⟩,⟨d2,d2'⟩,⟨x1,x1'⟩,⟨x2,x2'⟩,⟨y1,y1'⟩,⟨y2,y2'⟩,_,_,_,_,_⟩ := h
  obtain ⟨b0,b1,b2⟩ := three_new w (jobC J s) #[.int .i64 0,.int .i64 0,.int .i64 0,.int .i64 0,.int .i64 0,.int .i64 0] #[.int .i64 J.p1,.int .i64 J.p2,.int .i64 J.t1,.int .i64 J.t2,.int .i64 J.r1,.int .i64 J.r2] 104 25 25
  go_enter Try.func89,Try.ntmps89
  go_wp2_with fail
  refine (sum_any _ _ _ _ _ (by omega)).mono ?_
  rintro e w1 ⟨rfl,hb⟩
  have hz := hb.size
  simp only [World.size_alloc] at hz
  have k0 := b0.below hb (by simp; omega)
  have k1 := b1.below hb (by simp)
  have k2 := b2.below hb (by simp)
  have hB1 : Below w.heap.size w w1 := ((((Below.refl _ _).alloc (Nat.le_refl _) _).alloc (by simp) _).alloc (by simp; omega) _).trans (hb.mono (by simp; omega))
  clear b0 b1 b2 hb
  have l0 := k2.at_ 0 _ rfl
  have l1 := k2.at_ 1 _ rfl
  have l2 := k2.at_ 2 _ rfl
  have l3 := k2.at_ 3 _ rfl
  have m0 := k2.free 0
  have m1 := k2.free 1
  have j10 := k0.at_ 10 _ rfl
  have j11 := k0.at_ 11 _ rfl
  go_wp2_with fail
  refine (difference_any _ _ _ _ _ (by omega)).mono ?_
  rintro e w2 ⟨rfl,hb⟩
  have hz2 := hb.size
  simp only [World.size_setCell] at hz2
  have q1 := ((k1.other (p := ⟨w.heap.size + 2,0,none⟩) (by simp) _).other (p := ⟨w.heap.size + 2,1,none⟩) (by simp) _).below hb (by simp; omega)
  have q2 := ((k2.put 0 _).put 1 _).below hb (by simp; omega)
  have hB2 : Below w.heap.size w w2 := ((hB1.setCell (p := ⟨w.heap.size + 2,0,none⟩) (by simp) _).setCell (p := ⟨w.heap.size + 2,1,none⟩) (by simp) _).trans (hb.mono (by simp; omega))
  clear k0 k1 k2 l0 l1 l2 l3 m0 m1 j10 j11 hb hB1
  have l0 := q2.at_ 0 _ rfl
  have l1 := q2.at_ 1 _ rfl
  have l2 := q2.at_ 2 _ rfl
  have l3 := q2.at_ 3 _ rfl
  have l4 := q2.at_ 4 _ rfl
  have l5 := q2.at_ 5 _ rfl
  have m2 := q2.free 2
  have m3 := q2.free 3
  have n0 := q1.at_ 0 _ rfl
  have n1 := q1.at_ 1 _ rfl
  have n2 := q1.at_ 2 _ rfl
  have n3 := q1.at_ 3 _ rfl
  have n4 := q1.at_ 4 _ rfl
  have n5 := q1.at_ 5 _ rfl
  have f0 := q1.free 0
  have f1 := q1.free 1
  have f2 := q1.free 2
  have f3 := q1.free 3
  have f4 := q1.free 4
  have f5 := q1.free 5
  go_wp2
  refine bodyPost_ret (v := .agg #[.int .i64 (J.p1 + J.u1),.int .i64 (J.p2 + J.u2),.int .i64 (J.t1 - J.x2),.int .i64 (J.t2 - J.x1),.int .i64 J.r1,.int .i64 J.r2]) (by simp [results,Try.results89,go_sem,n0,n1,n2,n3,n4,n5]) rfl ⟨by simp [strk,Jb.tg],?_⟩
  iterate 8 (refine Below.setCell ?_ (by first | (simp; done) | (simp; omega)) _)
  exact hB2

set_option maxHeartbeats 1000000 in
set_option maxRecDepth 100000 in
theorem stroked_root (J : Jb) (s : Value) (w : World) (h : J.In 1000) :
    Calls Try.prog 89 #[.agg (jobC J s),.int .i64 2] w fun e w' => e = .returned (.agg (tonC (strk J J.tg 2))) ∧ Below w.heap.size w w' := by
  obtain ⟨⟨p1,p1'⟩,⟨p2,p2'⟩,⟨t1,t1'⟩,⟨t2,t2'⟩,⟨r1,r1'⟩,⟨r2,r2'⟩,⟨u1,u1'⟩,⟨u2,u2'⟩,⟨d1,d1'⟩,⟨d2,d2'⟩,⟨x1,x1'⟩,⟨x2,x2'⟩,⟨y1,y1'⟩,⟨y2,y2'⟩,_,_,_,_,_⟩ := h
  obtain ⟨b0,b1,b2⟩ := three_new w (jobC J s) #[.int .i64 0,.int .i64 0,.int .i64 0,.int .i64 0,.int .i64 0,.int .i64 0] #[.int .i64 J.p1,.int .i64 J.p2,.int .i64 J.t1,.int .i64 J.t2,.int .i64 J.r1,.int .i64 J.r2] 104 25 25
  go_enter Try.func89,Try.ntmps89
  go_wp2_with fail
  refine (difference_any _ _ _ _ _ (by omega)).mono ?_
  rintro e w1 ⟨rfl,hb⟩
  have hz := hb.size
  simp only [World.size_alloc] at hz
  have k0 := b0.below hb (by simp; omega)
  have k1 := b1.below hb (by simp)
  have k2 := b2.below hb (by simp)
  have hB1 : Below w.heap.size w w1 := ((((Below.refl _ _).alloc (Nat.le_refl _) _).alloc (by simp) _).alloc (by simp; omega) _).trans (hb.mono (by simp; omega))
  clear b0 b1 b2 hb
  have l0 := k2.at_ 0 _ rfl
  have l1 := k2.at_ 1 _ rfl
  have l2 := k2.at_ 4 _ rfl
  have l3 := k2.at_ 5 _ rfl
  have m0 := k2.free 0
  have m1 := k2.free 1
  have j10 := k0.at_ 12 _ rfl
  have j11 := k0.at_ 13 _ rfl
  go_wp2_with fail
  refine (difference_any _ _ _ _ _ (by omega)).mono ?_
  rintro e w2 ⟨rfl,hb⟩
  have hz2 := hb.size
  simp only [World.size_setCell] at hz2
  have q1 := ((k1.other (p := ⟨w.heap.size + 2,0,none⟩) (by simp) _).other (p := ⟨w.heap.size + 2,1,none⟩) (by simp) _).below hb (by simp; omega)
  have q2 := ((k2.put 0 _).put 1 _).below hb (by simp; omega)
  have hB2 : Below w.heap.size w w2 := ((hB1.setCell (p := ⟨w.heap.size + 2,0,none⟩) (by simp) _).setCell (p := ⟨w.heap.size + 2,1,none⟩) (by simp) _).trans (hb.mono (by simp; omega))
  clear k0 k1 k2 l0 l1 l2 l3 m0 m1 j10 j11 hb hB1
  have l0 := q2.at_ 0 _ rfl
  have l1 := q2.at_ 1 _ rfl
  have l2 := q2.at_ 2 _ rfl
  have l3 := q2.at_ 3 _ rfl
  have l4 := q2.at_ 4 _ rfl
  have l5 := q2.at_ 5 _ rfl
  have m2 := q2.free 4
  have m3 := q2.free 5
  have n0 := q1.at_ 0 _ rfl
  have n1 := q1.at_ 1 _ rfl
  have n2 := q1.at_ 2 _ rfl
  have n3 := q1.at_ 3 _ rfl
  have n4 := q1.at_ 4 _ rfl
  have n5 := q1.at_ 5 _ rfl
  have f0 := q1.free 0
  have f1 := q1.free 1
  have f2 := q1.free 2
  have f3 := q1.free 3
  have f4 := q1.free 4
  have f5 := q1.free 5
  go_wp2
  refine bodyPost_ret (v := .agg #[.int .i64 (J.p1 - J.d2),.int .i64 (J.p2 - J.d1),.int .i64 J.t1,.int .i64 J.t2,.int .i64 (J.r1 - J.y2),.int .i64 (J.r2 - J.y1)]) (by simp [results,Try.results89,go_sem,n0,n1,n2,n3,n4,n5]) rfl ⟨by simp [strk,Jb.tg],?_⟩
  iterate 8 (refine Below.setCell ?_ (by first | (simp; done) | (simp; omega)) _)
  exact hB2

theorem strk_in (J : Jb) (t : Tg) (s n : Int) (h : t.In n) (hJ : J.In 1000) : (strk J t s).In (n + 12) := by
  obtain ⟨h1,h2,h3,h4,h5,h6,h7,h8,h9,h10,h11,h12⟩ := h
  have := hJ.u1; have := hJ.u2; have := hJ.d1; have := hJ.d2; have := hJ.x1; have := hJ.x2; have := hJ.y1; have := hJ.y2
  unfold strk
  by_cases e1 : s = 1
  · rw [if_pos e1]; simp only [Tg.In]; omega
  · rw [if_neg e1]
    by_cases e2 : s = 2
    · rw [if_pos e2]; simp only [Tg.In]; omega
    · rw [if_neg e2]; simp only [Tg.In]; omega
theorem Jb.In.tg {J : Jb} {n : Int} (h : J.In n) : J.tg.In n := by
  have := h.p1; have := h.p2; have := h.t1; have := h.t2; have := h.r1; have := h.r2
  simp only [Tg.In,Jb.tg]; omega
theorem Jb.In.setTg {J : Jb} {n m : Int} {t : Tg} (h : J.In n) (ht : t.In m) : (J.setTg t).In m := by
  obtain ⟨h1,h2,h3,h4,h5,h6,h7,h8,h9,h10,h11,h12⟩ := ht
  exact ⟨⟨h1,h2⟩,⟨h3,h4⟩,⟨h5,h6⟩,⟨h7,h8⟩,⟨h9,h10⟩,⟨h11,h12⟩,h.u1,h.u2,h.d1,h.d2,h.x1,h.x2,h.y1,h.y2,h.le,h.wi,h.me,h.sh,h.len⟩
theorem Tg.In.mono {t : Tg} {n m : Int} (h : t.In n) (hm : n ≤ m) : t.In m := by
  simp only [Tg.In] at h ⊢; omega
theorem Jb.In.mono {J : Jb} {n m : Int} (h : J.In n) (hm : n ≤ m) : J.In m := h.setTg (h.tg.mono hm)

/-- Each stroke. -/
theorem stroked_any (J : Jb) (s : Value) (k : Int) (hk : k = 1 ∨ k = 2) (w : World) (h : J.In 1000) :
    Calls Try.prog 89 #[.agg (jobC J s),.int .i64 k] w fun e w' => e = .returned (.agg (tonC (strk J J.tg k))) ∧ Below w.heap.size w w' := by
  rcases hk with rfl | rfl
  · exact stroked_tip J s w h
  · exact stroked_root J s w h

/-- What 'after' hands back. -/
def AfterEnd (J : Jb) (l : List Int) (s : Value) (w : World) (e : Ending) (w' : World) : Prop :=
  e = .returned (.agg (jobC (J.setTg (afterS J J.tg l)) s)) ∧ Below w.heap.size w w'
end Go.Proofs.Ytolabejbhaeddaa
