/- Part 11 of the proof: Plain, Heap, RShelf, TxD, TxE, TxF, Leaf, Via, TxG. -/
import Derived.WalkKit
import Derived.OrdersHeld
import Derived.Carry
import Derived.RangeFuncWrites
import Derived.Laws.Rows
import Derived.Laws.Tables
import Derived.Deep.MidRow
import Derived.Deep.Draws
import Derived.Deep.Quiet
import Derived.Shelf.Strings.Builder1
import Derived.Shelf.Strings.Builder2
import Derived.Shelf.Strings.OnBuilder
import Derived.Shelf.Strconv.Atoi
import Derived.Shelf.Strconv.Itoa0
import Derived.Shelf.Strconv.Itoa1
import Derived.Shelf.LaysM
import Derived.Shelf.Strconv.Itoa2
import Derived.Shelf.Strconv.Itoa3
import Derived.Shelf.Strconv.AtoiErrFast
import Derived.Shelf.Strconv.ParseIntEmpty
import Derived.Shelf.Strconv.AtoiFail
import Derived.Shelf.Strconv.Clone
import Derived.Shelf.Strconv.SyntaxError
import Derived.Shelf.LaysC
import Derived.Shelf.Strconv.ToError
import Derived.Shelf.Strconv.Lower
import Derived.Shelf.Strconv.ParseUint10
import Derived.Shelf.Strconv.ParseUint10Empty
import Derived.Shelf.Strconv.ParseUint10Any
import Derived.Shelf.Strconv.ParseInt10
import Derived.Shelf.Strconv.AtoiLong
import Derived.Shelf.Strconv.AtoiInnerAll
import Derived.Shelf.Strconv.RangeError
import Derived.Shelf.Strconv.ToErrorRange
import Derived.Shelf.Strconv.AtoiAll
import Derived.Shelf.Strconv.ErrVarAll
import Derived.Shelf.Strings.Search1
import Derived.Shelf.Strings.Search2
import Derived.Shelf.Strings.Search3
import Derived.Shelf.Strings.Cut
import Derived.Shelf.Strings.Count
import Derived.Shelf.Strings.Shaped
import Derived.Shelf.Strings.Split
import Derived.Shelf.Strings.SplitShaped
import Derived.Shelf.Unicode.DecodeSlow
import Derived.Test.YtljefjngmembkaaGreatDoorProg
import Derived.Lib.SmallJoins
import Derived.Lib.AppendIntMem
import Derived.Lib.QuietBelow
import Derived.WalkLawsBesides
import Derived.Outline
import Derived.Deep.RegionHeld3
import Derived.Test.YtljefjngmembkaaGreatDoorT10
namespace Go.Proofs.YtljefjngmembkaaGreatDoor
set_option linter.all false

abbrev R2 := Int × Int

structure Jb where
  p1 : Int
  p2 : Int
  t1 : Int
  t2 : Int
  r1 : Int
  r2 : Int
  u1 : Int
  u2 : Int
  d1 : Int
  d2 : Int
  x1 : Int
  x2 : Int
  y1 : Int
  y2 : Int
  le : Int
  wi : Int
  me : Int
  sh : List R2

def numE (n lo hi : Int) : Int := if n < lo ∨ hi < n then 1 else 0
def rngE (a b lo hi : Int) : Int := if a < lo ∨ hi < a then 1 else if b < lo ∨ hi < b then 1 else if b < a then 5 else 0
def firstE : List Int → Int
  | [] => 0
  | e :: l => if e = 0 then firstE l else e
def shE : List R2 → Int
  | [] => 0
  | s :: l => if rngE s.1 s.2 (-60) 60 = 0 then shE l else rngE s.1 s.2 (-60) 60
def Jb.head (J : Jb) : Int :=
  firstE [rngE J.p1 J.p2 (-60) 60,rngE J.t1 J.t2 0 100,rngE J.r1 J.r2 0 100,rngE J.u1 J.u2 0 12,rngE J.d1 J.d2 0 12,rngE J.x1 J.x2 0 12,rngE J.y1 J.y2 0 12,numE J.le 0 100]
def Jb.check (J : Jb) : Int :=
  if J.head = 0 then
    if 4 < J.sh.length then 6
    else if shE J.sh = 0 then firstE [numE J.wi 0 60,numE J.me 0 6] else shE J.sh
  else J.head

def conds (sh : List R2) : List R2 := if sh = [] then [(0,0)] else sh
def mx (a b : Int) : Int := if a < b then b else a
def mn (a b : Int) : Int := if b < a then b else a
def meet2 (r o : R2) : R2 := (if r.1 < o.1 then o.1 else r.1,if o.2 < r.2 then o.2 else r.2)
def meetL (r : R2) (l : List R2) : R2 := l.foldl meet2 r
def possOf (wi : Int) (s : R2) : R2 := (-wi - s.2,wi - s.1)
def meetAll : List R2 → R2
  | [] => (0,0)
  | r :: l => meetL r l
def pos (wi : Int) (sh : List R2) : R2 := meetAll ((conds sh).map (possOf wi))
end Go.Proofs.YtljefjngmembkaaGreatDoor
namespace Go.Proofs.YtljefjngmembkaaGreatDoor
set_option linter.all false
open Go.RowKit

theorem wT {P : Program} {ops : Array Oper} {Q : Exit → Act → World → Prop} {md : Region.Mode} {S : World → Prop} {i : Nat} {oi : Oper} {v : Value} {fuel : Nat} {listed : Array Bool} {a : Act} {w : World} (hi : ops[i]? = some oi) (hy : YieldsIf P ops S oi v a) (h : wpAnyH P md ops Q S fuel (listed.setIfInBounds i true) (a.put oi.dst v) w) (hs : Region.noSelect ops = true := by kernel_rfl) (hf : Region.free md ops listed i = true := by kernel_rfl) (hr : (Region.ready md ops listed).contains i = true := by kernel_rfl) (hQ : ∀ c a w,Q (.panic c) (a.put oi.dst v) w → Q (.panic c) a w := by exact fun _ _ _ h => by cases h.1) (hS : S w := by assumption) : wpAnyH P md ops Q S (fuel + 1) listed a w := wpAnyH_take hi hs hf hr hQ hy hS h
theorem aT {α : Type} (l : List α) (i : Nat) (x : α) : l.toArray.setIfInBounds i x = (l.set i x).toArray := List.setIfInBounds_toArray ..
theorem aZ {α : Type} (a b : α) (l : List α) : (a :: l).set 0 b = b :: l := List.set_cons_zero
theorem aS {α : Type} (a b : α) (l : List α) (n : Nat) : (a :: l).set (n + 1) b = a :: l.set n b := List.set_cons_succ
theorem hidMk {p : Prop} (h : p) : Hid p := h
def iv (n : Int) : Value := .int .i64 n

def Bk (w : World) (g : Nat) (t : TypeId) (cs : Array Value) : Prop := w.heap[g]? = some (.cells cs t (0,0))

section
variable {w w' : World} {g : Nat} {t : TypeId} {cs : Array Value}
theorem Bk.lt (h : Bk w g t cs) : g < w.heap.size := (Array.getElem?_eq_some_iff.1 h).1
theorem Bk.at_ (h : Bk w g t cs) (i : Nat) (v : Value) (hv : cs[i]? = some v) : w.cell? ⟨g,i,none⟩ = some v := by
  rw [cell_of_row w g i cs t (0,0) h]; exact hv
theorem Bk.free (h : Bk w g t cs) (i : Nat) : w.frozen? ⟨g,i,none⟩ = false := by
  unfold Bk at h
  simp [World.frozen?,h]
theorem Bk.new (w : World) (t : TypeId) (cs : Array Value) : Bk (w.alloc (.cells cs t)) w.heap.size t cs := World.alloc_heap_new w _
theorem Bk.newAt (w : World) (t : TypeId) (cs : Array Value) (n : Nat) (hn : n = w.heap.size) : Bk (w.alloc (.cells cs t)) n t cs := by subst hn; exact Bk.new w t cs
theorem Bk.drew (h : Bk w g t cs) : Bk w.drew g t cs := h
theorem Bk.drewN (h : Bk w g t cs) (n : Nat) : Bk (w.drewN n) g t cs := h
theorem Bk.alloc (h : Bk w g t cs) (o : Obj) : Bk (w.alloc o) g t cs := (Below.heap_alloc w o g h.lt).trans h
theorem Bk.put (h : Bk w g t cs) (i : Nat) (u : Value) : Bk (w.setCell ⟨g,i,none⟩ u) g t (cs.setIfInBounds i u) := by
  unfold Bk at h ⊢
  simp [World.setCell,Array.getElem?_modify,h]
theorem Bk.put2 {a b : Value} (h : Bk w g t #[a,b]) (x y : Value) : Bk ((w.setCell ⟨g,0,none⟩ x).setCell ⟨g,1,none⟩ y) g t #[x,y] := (h.put 0 x).put 1 y
theorem Bk.put1 {a : Value} (h : Bk w g t #[a]) (x : Value) : Bk (w.setCell ⟨g,0,none⟩ x) g t #[x] := h.put 0 x
theorem Bk.other (h : Bk w g t cs) {p : Addr} (hp : g ≠ p.block) (u : Value) : Bk (w.setCell p u) g t cs := (Below.heap_setCell w p u g hp).trans h
theorem Bk.below {B : Nat} (h : Bk w g t cs) (hb : Below B w w') (hg : g < B) : Bk w' g t cs := (hb.block g hg).trans h
theorem Bk.grown {row : Option Nat} (h : Bk w g t cs) (hb : w.grownBy w' row) (hg : some g ≠ row) : Bk w' g t cs := (hb.block g h.lt hg).trans h
end

theorem setRow_other (w : World) (g k : Nat) (cs : Array Value) (h : k ≠ g) : (w.setRow g cs).heap[k]? = w.heap[k]? := by
  simp only [World.setRow,Array.getElem?_modify]
  rw [if_neg (by omega)]
theorem Bk.row {w : World} {g : Nat} {t : TypeId} {cs : Array Value} (h : Bk w g t cs) (ds : Array Value) : Bk (w.setRow g ds) g t ds := by
  unfold Bk at h ⊢
  simp [World.setRow,Array.getElem?_modify,h]
theorem Bk.rowOther {w : World} {g k : Nat} {t : TypeId} {cs : Array Value} (h : Bk w k t cs) (hk : k ≠ g) (ds : Array Value) : Bk (w.setRow g ds) k t cs := (setRow_other w g k ds hk).trans h
theorem below_setRow {B g : Nat} {a w : World} (h : Below B a w) (hg : B ≤ g) (cs : Array Value) : Below B a (w.setRow g cs) :=
  h.trans ⟨rfl,rfl,rfl,by simp,fun k hk => setRow_other w g k cs (by omega)⟩

def Rg (w : World) (B : Nat) (a : Option Addr) (l : List R2) : Prop :=
  ∀ k r,l[k]? = some r → ∃ b off,a = some ⟨b,off,none⟩ ∧ b < B ∧ w.cell? ⟨b,off + k * 2,none⟩ = some (.int .i64 r.1) ∧ w.cell? ⟨b,off + k * 2 + 1,none⟩ = some (.int .i64 r.2)

theorem Rg.keep {w w' : World} {B B' : Nat} {a : Option Addr} {l : List R2} (h : Rg w B a l) (hB : B ≤ B') (hk : ∀ p : Addr,p.block < B → w'.cell? p = w.cell? p) : Rg w' B' a l := fun k r hr => by
  obtain ⟨b,off,e,hb,h1,h2⟩ := h k r hr
  exact ⟨b,off,e,by omega,(hk _ hb).trans h1,(hk _ hb).trans h2⟩
theorem Rg.below {w w' : World} {B : Nat} {a : Option Addr} {l : List R2} (h : Rg w B a l) (hb : Below B w w') : Rg w' B a l := h.keep (Nat.le_refl _) fun _ hp => hb.cell hp
theorem Rg.up {w w' : World} {a : Option Addr} {l : List R2} (h : Rg w w.heap.size a l) (hb : Below w.heap.size w w') : Rg w' w'.heap.size a l := (h.below hb).keep hb.size fun _ _ => rfl
theorem Rg.nil (w : World) (B : Nat) (a : Option Addr) : Rg w B a [] := fun k r h => by simp at h

def Is (w : World) (B : Nat) (a : Option Addr) (l : List Int) : Prop :=
  ∀ k n,l[k]? = some n → ∃ b off,a = some ⟨b,off,none⟩ ∧ b < B ∧ w.cell? ⟨b,off + k,none⟩ = some (.int .i64 n)
theorem Is.keep {w w' : World} {B B' : Nat} {a : Option Addr} {l : List Int} (h : Is w B a l) (hB : B ≤ B') (hk : ∀ p : Addr,p.block < B → w'.cell? p = w.cell? p) : Is w' B' a l := fun k r hr => by
  obtain ⟨b,off,e,hb,h1⟩ := h k r hr
  exact ⟨b,off,e,by omega,(hk _ hb).trans h1⟩
theorem Is.below {w w' : World} {B : Nat} {a : Option Addr} {l : List Int} (h : Is w B a l) (hb : Below B w w') : Is w' B a l := h.keep (Nat.le_refl _) fun _ hp => hb.cell hp
theorem Is.up {w w' : World} {a : Option Addr} {l : List Int} (h : Is w w.heap.size a l) (hb : Below w.heap.size w w') : Is w' w'.heap.size a l := (h.below hb).keep hb.size fun _ _ => rfl
theorem Is.nil (w : World) (B : Nat) (a : Option Addr) : Is w B a [] := fun k r h => by simp at h

theorem Is.of_bk {W : World} {g B : Nat} {t : TypeId} (l : List Int) (h : Bk W g t (l.map (Value.int .i64)).toArray) (hB : g < B) : Is W B (some ⟨g,0,none⟩) l := fun k n hk =>
  ⟨g,0,rfl,hB,by rw [Nat.zero_add]; exact h.at_ k _ (by simp [hk])⟩
def rgCells : List R2 → List Value
  | [] => []
  | r :: l => .int .i64 r.1 :: .int .i64 r.2 :: rgCells l
theorem rgCells_at : ∀ (l : List R2) (k : Nat) (r : R2),l[k]? = some r → (rgCells l)[k * 2]? = some (.int .i64 r.1) ∧ (rgCells l)[k * 2 + 1]? = some (.int .i64 r.2)
  | x :: l,0,r,h => by
    obtain rfl : x = r := by simpa using h
    exact ⟨rfl,rfl⟩
  | x :: l,k + 1,r,h => by
    have := rgCells_at l k r (by simpa using h)
    rw [show (k + 1) * 2 = k * 2 + 1 + 1 from by omega]
    simpa [rgCells] using this
theorem Rg.of_bk {W : World} {g B : Nat} {t : TypeId} (l : List R2) (h : Bk W g t (rgCells l).toArray) (hB : g < B) : Rg W B (some ⟨g,0,none⟩) l := fun k r hk =>
  ⟨g,0,rfl,hB,by rw [Nat.zero_add]; exact h.at_ _ _ (by simp [(rgCells_at l k r hk).1]),by rw [Nat.zero_add]; exact h.at_ _ _ (by simp [(rgCells_at l k r hk).2])⟩

theorem cell_other (w : World) (g o g' o' : Nat) (v : Value) (h : g ≠ g') : (w.setCell ⟨g,o,none⟩ v).cell? ⟨g',o',none⟩ = w.cell? ⟨g',o',none⟩ :=
  World.cell?_of_block (a := ⟨g',o',none⟩) (Below.heap_setCell w ⟨g,o,none⟩ v g' (fun e => h e.symm))
theorem chainB {B : Nat} {w0 W w' : World} (hB : Below B w0 W) (hs : B ≤ w0.heap.size) (hb : Below W.heap.size W w') : Below B w0 w' := hB.trans (hb.mono (Nat.le_trans hs hB.size))
theorem bcell {W w1 : World} (hb : Below W.heap.size W w1) : (∀ b o,b < W.heap.size → w1.cell? ⟨b,o,none⟩ = W.cell? ⟨b,o,none⟩) ∧ (∀ b o,b < W.heap.size → w1.frozen? ⟨b,o,none⟩ = W.frozen? ⟨b,o,none⟩) :=
  ⟨fun b o h => hb.cell (p := ⟨b,o,none⟩) h,fun b o h => hb.frozen (p := ⟨b,o,none⟩) h⟩

theorem ret_i {k : IntKind} {a b : Int} (h : a = b) : Ending.returned (.int k a) = .returned (.int k b) := by rw [h]
abbrev jobC (J : Jb) (s : Value) : Array Value :=
  #[.int .i64 J.p1,.int .i64 J.p2,.int .i64 J.t1,.int .i64 J.t2,.int .i64 J.r1,.int .i64 J.r2,.int .i64 J.u1,.int .i64 J.u2,.int .i64 J.d1,.int .i64 J.d2,
    .int .i64 J.x1,.int .i64 J.x2,.int .i64 J.y1,.int .i64 J.y2,.int .i64 J.le,s,.int .i64 J.wi,.int .i64 J.me]
end Go.Proofs.YtljefjngmembkaaGreatDoor
namespace Go.Proofs
set_option linter.all false
open Go.Shelf
def Tryz.lays156_ren : Go.Shelf.Ren := ⟨fun | 156 => 52 | 165 => 73 | 166 => 74 | 169 => 75 | 240 => 87 | 241 => 88 | 276 => 98 | 277 => 99 | n => n,fun | 31 => 37 | 9 => 9 | 3 => 3 | 4 => 4 | 0 => 0 | 20 => 20 | 72 => 135 | 76 => 139 | 70 => 133 | 37 => 73 | 75 => 138 | 127 => 147 | 164 => 155 | 5 => 5 | 80 => 141 | n => n,fun | n => n⟩
theorem Tryz.lays156 : Go.Proofs.Lays.n156 Tryz.prog Tryz.lays156_ren := {
  mixed := by kernel_rfl
  f156 := Tryz.func52.trans (congrArg some (by kernel_rfl))
  f165 := Tryz.func73.trans (congrArg some (by kernel_rfl))
  f166 := Tryz.func74.trans (congrArg some (by kernel_rfl))
  f169 := Tryz.func75.trans (congrArg some (by kernel_rfl))
  f240 := Tryz.func87.trans (congrArg some (by kernel_rfl))
  f241 := Tryz.func88.trans (congrArg some (by kernel_rfl))
  f276 := Tryz.func98.trans (congrArg some (by kernel_rfl))
  f277 := Tryz.func99.trans (congrArg some (by kernel_rfl))
  t0 := Tryz.underlying0
  a0 := Tryz.isAgg0
  z0 := Tryz.sizeOf0
  v0 := Tryz.zeroValue0
  t3 := Tryz.underlying3
  a3 := Tryz.isAgg3
  z3 := Tryz.sizeOf3
  v3 := Tryz.zeroValue3
  t4 := Tryz.underlying4
  a4 := Tryz.isAgg4
  z4 := Tryz.sizeOf4
  v4 := Tryz.zeroValue4
  t9 := Tryz.underlying9
  a9 := Tryz.isAgg9
  z9 := Tryz.sizeOf9
  v9 := Tryz.zeroValue9
  t20 := Tryz.underlying20
  a20 := Tryz.isAgg20
  z20 := Tryz.sizeOf20
  v20 := Tryz.zeroValue20
  t31 := Tryz.underlying37
  a31 := Tryz.isAgg37
  z31 := Tryz.sizeOf37
  v31 := Tryz.zeroValue37
  t37 := Tryz.underlying73
  a37 := Tryz.isAgg73
  z37 := Tryz.sizeOf73
  v37 := Tryz.zeroValue73
  t70 := Tryz.underlying133
  a70 := Tryz.isAgg133
  z70 := Tryz.sizeOf133
  v70 := Tryz.zeroValue133
  t72 := Tryz.underlying135
  a72 := Tryz.isAgg135
  z72 := Tryz.sizeOf135
  v72 := Tryz.zeroValue135
  t75 := Tryz.underlying138
  a75 := Tryz.isAgg138
  z75 := Tryz.sizeOf138
  v75 := Tryz.zeroValue138
  t76 := Tryz.underlying139
  a76 := Tryz.isAgg139
  z76 := Tryz.sizeOf139
  v76 := Tryz.zeroValue139
  t127 := Tryz.underlying147
  a127 := Tryz.isAgg147
  z127 := Tryz.sizeOf147
  v127 := Tryz.zeroValue147
  t164 := Tryz.underlying155
  a164 := Tryz.isAgg155
  z164 := Tryz.sizeOf155
  v164 := Tryz.zeroValue155 }
theorem Tryz.Builder_Extra_156 : Builder.Extra Tryz.prog Tryz.lays156_ren := {
  sizeBuilder := by kernel_rfl
  liesBuilder := by kernel_rfl
  t5 := Tryz.underlying5
  a5 := Tryz.isAgg5
  z5 := Tryz.sizeOf5
  v5 := Tryz.zeroValue5
  infoByte := by kernel_rfl
  cellsByte := by kernel_rfl
  sizeByte := by kernel_rfl
  neB5 := by decide }
open Go.RowKit in
theorem Tryz.strings_Join (bk o c : Nat) (xs : List ByteArray) (sep : ByteArray) (w : World) (hcells : ∀ (j : Nat) x,xs[j]? = some x → w.cell? ⟨bk,o + j,none⟩ = some (.string x)) (hbk : bk < w.heap.size) (hN : xs.length ≤ 140737488355328) (hcap : xs.length ≤ c) (hlen : (Lib.join (xs.map (·.data.toList)) sep.data.toList).length ≤ 140737488355328) :
    Calls Tryz.prog 52 #[.slice (some ⟨bk,o,none⟩) xs.length c,.string sep] w fun e w' => e = .returned (.string ⟨(Lib.join (xs.map (·.data.toList)) sep.data.toList).toArray⟩) ∧ Below w.heap.size w w' := Any.strings_Join Tryz.lays156 Tryz.Builder_Extra_156 bk o c xs sep w hcells hbk hN hcap hlen
def Tryz.lays172_ren : Go.Shelf.Ren := ⟨fun | 172 => 97 | 244 => 112 | 245 => 113 | 247 => 119 | 279 => 120 | 280 => 121 | 281 => 122 | 282 => 123 | 287 => 124 | 316 => 125 | 171 => 31 | 205 => 126 | 321 => 127 | 322 => 128 | 243 => 53 | 246 => 76 | 283 => 89 | 284 => 90 | 285 => 91 | 286 => 92 | 129 => 101 | 317 => 100 | 318 => 102 | 319 => 103 | 320 => 104 | 337 => 114 | 338 => 115 | n => n,fun | 9 => 9 | 3 => 3 | 75 => 138 | 76 => 139 | 4 => 4 | 5 => 5 | 167 => 172 | 37 => 73 | 0 => 0 | 85 => 173 | 2 => 2 | 168 => 175 | 53 => 65 | 175 => 184 | 46 => 68 | 210 => 188 | 127 => 147 | 145 => 194 | 143 => 192 | 21 => 21 | 171 => 148 | 173 => 151 | 212 => 159 | 51 => 160 | 20 => 20 | 213 => 161 | 232 => 178 | 233 => 179 | 80 => 141 | n => n,fun | 15 => 6 | 16 => 7 | 17 => 0 | 18 => 2 | 19 => 3 | n => n⟩
def Tryz.laysM246_ren : Go.Shelf.Ren := ⟨fun | 246 => 76 | 283 => 89 | 284 => 90 | 285 => 91 | 286 => 92 | 129 => 101 | 317 => 100 | 318 => 102 | 319 => 103 | 320 => 104 | 337 => 114 | 338 => 115 | n => n,fun | 2 => 2 | 3 => 3 | 9 => 9 | 4 => 4 | 171 => 148 | 0 => 0 | 53 => 65 | 37 => 73 | 5 => 5 | 173 => 151 | 212 => 159 | 51 => 160 | 20 => 20 | 213 => 161 | 46 => 68 | 232 => 178 | 233 => 179 | n => n,fun | 17 => 0 | 18 => 2 | 19 => 3 | n => n⟩
def Tryz.laysM243_ren : Go.Shelf.Ren := ⟨fun | 243 => 53 | 246 => 76 | 283 => 89 | 284 => 90 | 285 => 91 | 286 => 92 | 129 => 101 | 317 => 100 | 318 => 102 | 319 => 103 | 320 => 104 | 337 => 114 | 338 => 115 | n => n,fun | 3 => 3 | 9 => 9 | 2 => 2 | 4 => 4 | 171 => 148 | 0 => 0 | 53 => 65 | 37 => 73 | 5 => 5 | 173 => 151 | 212 => 159 | 51 => 160 | 20 => 20 | 213 => 161 | 46 => 68 | 232 => 178 | 233 => 179 | n => n,fun | 17 => 0 | 18 => 2 | 19 => 3 | n => n⟩
def Tryz.laysM171_ren : Go.Shelf.Ren := ⟨fun | 171 => 31 | 243 => 53 | 246 => 76 | 283 => 89 | 284 => 90 | 285 => 91 | 286 => 92 | 129 => 101 | 317 => 100 | 318 => 102 | 319 => 103 | 320 => 104 | 337 => 114 | 338 => 115 | n => n,fun | 3 => 3 | 9 => 9 | 2 => 2 | 4 => 4 | 171 => 148 | 0 => 0 | 53 => 65 | 37 => 73 | 5 => 5 | 173 => 151 | 212 => 159 | 51 => 160 | 20 => 20 | 213 => 161 | 46 => 68 | 232 => 178 | 233 => 179 | n => n,fun | 17 => 0 | 18 => 2 | 19 => 3 | n => n⟩
theorem Tryz.laysM171 : Go.Proofs.LaysM.n171 Tryz.prog Tryz.laysM171_ren := {
  mixed := by kernel_rfl
  f129 := Tryz.func101.trans (congrArg some (by kernel_rfl))
  f171 := Tryz.func31.trans (congrArg some (by kernel_rfl))
  f243 := Tryz.func53.trans (congrArg some (by kernel_rfl))
  f246 := Tryz.func76.trans (congrArg some (by kernel_rfl))
  f283 := Tryz.func89.trans (congrArg some (by kernel_rfl))
  f284 := Tryz.func90.trans (congrArg some (by kernel_rfl))
  f285 := Tryz.func91.trans (congrArg some (by kernel_rfl))
  f286 := Tryz.func92.trans (congrArg some (by kernel_rfl))
  f317 := Tryz.func100.trans (congrArg some (by kernel_rfl))
  f318 := Tryz.func102.trans (congrArg some (by kernel_rfl))
  f319 := Tryz.func103.trans (congrArg some (by kernel_rfl))
  f320 := Tryz.func104.trans (congrArg some (by kernel_rfl))
  f337 := Tryz.func114.trans (congrArg some (by kernel_rfl))
  f338 := Tryz.func115.trans (congrArg some (by kernel_rfl))
  t0 := Tryz.underlying0
  a0 := Tryz.isAgg0
  z0 := Tryz.sizeOf0
  v0 := Tryz.zeroValue0
  t2 := Tryz.underlying2
  a2 := Tryz.isAgg2
  z2 := Tryz.sizeOf2
  v2 := Tryz.zeroValue2
  t3 := Tryz.underlying3
  a3 := Tryz.isAgg3
  z3 := Tryz.sizeOf3
  v3 := Tryz.zeroValue3
  t4 := Tryz.underlying4
  a4 := Tryz.isAgg4
  z4 := Tryz.sizeOf4
  v4 := Tryz.zeroValue4
  t5 := Tryz.underlying5
  a5 := Tryz.isAgg5
  z5 := Tryz.sizeOf5
  v5 := Tryz.zeroValue5
  t9 := Tryz.underlying9
  a9 := Tryz.isAgg9
  z9 := Tryz.sizeOf9
  v9 := Tryz.zeroValue9
  t20 := Tryz.underlying20
  a20 := Tryz.isAgg20
  z20 := Tryz.sizeOf20
  v20 := Tryz.zeroValue20
  t37 := Tryz.underlying73
  a37 := Tryz.isAgg73
  z37 := Tryz.sizeOf73
  v37 := Tryz.zeroValue73
  t46 := Tryz.underlying68
  a46 := Tryz.isAgg68
  z46 := Tryz.sizeOf68
  v46 := Tryz.zeroValue68
  t51 := Tryz.underlying160
  a51 := Tryz.isAgg160
  z51 := Tryz.sizeOf160
  v51 := Tryz.zeroValue160
  t53 := Tryz.underlying65
  a53 := Tryz.isAgg65
  z53 := Tryz.sizeOf65
  v53 := Tryz.zeroValue65
  t171 := Tryz.underlying148
  a171 := Tryz.isAgg148
  z171 := Tryz.sizeOf148
  v171 := Tryz.zeroValue148
  t173 := Tryz.underlying151
  a173 := Tryz.isAgg151
  z173 := Tryz.sizeOf151
  v173 := Tryz.zeroValue151
  t212 := Tryz.underlying159
  a212 := Tryz.isAgg159
  z212 := Tryz.sizeOf159
  v212 := Tryz.zeroValue159
  t213 := Tryz.underlying161
  a213 := Tryz.isAgg161
  z213 := Tryz.sizeOf161
  t232 := Tryz.underlying178
  a232 := Tryz.isAgg178
  z232 := Tryz.sizeOf178
  v232 := Tryz.zeroValue178
  t233 := Tryz.underlying179
  a233 := Tryz.isAgg179
  z233 := Tryz.sizeOf179
  v233 := Tryz.zeroValue179
  g17 := by kernel_rfl
  g18 := by kernel_rfl
  g19 := by kernel_rfl
  i0 := by kernel_rfl
  i2 := by kernel_rfl
  i3 := by kernel_rfl
  i4 := by kernel_rfl
  i5 := by kernel_rfl
  i9 := by kernel_rfl
  i20 := by kernel_rfl
  i37 := by kernel_rfl
  i46 := by kernel_rfl
  i51 := by kernel_rfl
  i53 := by kernel_rfl
  i171 := by kernel_rfl
  i173 := by kernel_rfl
  i212 := by kernel_rfl
  i232 := by kernel_rfl
  i233 := by kernel_rfl
  m17 := by kernel_rfl
  m18 := by kernel_rfl
  m19 := by kernel_rfl }
open Go.RowKit Go.Sort Go.Lib in
theorem Tryz.strconv_Itoa (n : Int) (h0 : -9223372036854775808 ≤ n) (h1 : n ≤ 9223372036854775807) (w : World) (htab : Lib.TabIs Tryz.prog w "internal/strconv.uint64pow10" .u64 Lib.pow10Tab) :
    Calls Tryz.prog 31 #[.int .i64 n] w fun e w' => e = .returned (.string ⟨(Lib.itoa n).toArray⟩) ∧ ∃ k os,w' = grow (w.drewN k) os := Any.strconv_Itoa Tryz.laysM171 n h0 h1 w htab
def Tryz.laysC172_ren : Go.Shelf.Ren := ⟨fun | 172 => 97 | 244 => 112 | 245 => 113 | 247 => 119 | 279 => 120 | 280 => 121 | 281 => 122 | 282 => 123 | 287 => 124 | 316 => 125 | 171 => 31 | 205 => 126 | 321 => 127 | 322 => 128 | 243 => 53 | 246 => 76 | 283 => 89 | 284 => 90 | 285 => 91 | 286 => 92 | 129 => 101 | 317 => 100 | 318 => 102 | 319 => 103 | 320 => 104 | 337 => 114 | 338 => 115 | n => n,fun | 9 => 9 | 3 => 3 | 75 => 138 | 76 => 139 | 4 => 4 | 5 => 5 | 167 => 172 | 37 => 73 | 0 => 0 | 85 => 173 | 2 => 2 | 168 => 175 | 53 => 65 | 175 => 184 | 46 => 68 | 210 => 188 | 127 => 147 | 145 => 194 | 143 => 192 | 21 => 21 | 171 => 148 | 173 => 151 | 212 => 159 | 51 => 160 | 20 => 20 | 213 => 161 | 232 => 178 | 233 => 179 | 80 => 141 | n => n,fun | 15 => 6 | 16 => 7 | 17 => 0 | 18 => 2 | 19 => 3 | n => n⟩
theorem Tryz.laysC172 : Go.Proofs.LaysC.n172 Tryz.prog Tryz.laysC172_ren := {
  mixed := by kernel_rfl
  f129 := Tryz.func101.trans (congrArg some (by kernel_rfl))
  f171 := Tryz.func31.trans (congrArg some (by kernel_rfl))
  f172 := Tryz.func97.trans (congrArg some (by kernel_rfl))
  f205 := Tryz.func126.trans (congrArg some (by kernel_rfl))
  f243 := Tryz.func53.trans (congrArg some (by kernel_rfl))
  f244 := Tryz.func112.trans (congrArg some (by kernel_rfl))
  f245 := Tryz.func113.trans (congrArg some (by kernel_rfl))
  f246 := Tryz.func76.trans (congrArg some (by kernel_rfl))
  f247 := Tryz.func119.trans (congrArg some (by kernel_rfl))
  f279 := Tryz.func120.trans (congrArg some (by kernel_rfl))
  f280 := Tryz.func121.trans (congrArg some (by kernel_rfl))
  f281 := Tryz.func122.trans (congrArg some (by kernel_rfl))
  f282 := Tryz.func123.trans (congrArg some (by kernel_rfl))
  f283 := Tryz.func89.trans (congrArg some (by kernel_rfl))
  f284 := Tryz.func90.trans (congrArg some (by kernel_rfl))
  f285 := Tryz.func91.trans (congrArg some (by kernel_rfl))
  f286 := Tryz.func92.trans (congrArg some (by kernel_rfl))
  f287 := Tryz.func124.trans (congrArg some (by kernel_rfl))
  f316 := Tryz.func125.trans (congrArg some (by kernel_rfl))
  f317 := Tryz.func100.trans (congrArg some (by kernel_rfl))
  f318 := Tryz.func102.trans (congrArg some (by kernel_rfl))
  f319 := Tryz.func103.trans (congrArg some (by kernel_rfl))
  f320 := Tryz.func104.trans (congrArg some (by kernel_rfl))
  f321 := Tryz.func127.trans (congrArg some (by kernel_rfl))
  f322 := Tryz.func128.trans (congrArg some (by kernel_rfl))
  f337 := Tryz.func114.trans (congrArg some (by kernel_rfl))
  f338 := Tryz.func115.trans (congrArg some (by kernel_rfl))
  t0 := Tryz.underlying0
  a0 := Tryz.isAgg0
  z0 := Tryz.sizeOf0
  v0 := Tryz.zeroValue0
  t2 := Tryz.underlying2
  a2 := Tryz.isAgg2
  z2 := Tryz.sizeOf2
  v2 := Tryz.zeroValue2
  t3 := Tryz.underlying3
  a3 := Tryz.isAgg3
  z3 := Tryz.sizeOf3
  v3 := Tryz.zeroValue3
  t4 := Tryz.underlying4
  a4 := Tryz.isAgg4
  z4 := Tryz.sizeOf4
  v4 := Tryz.zeroValue4
  t5 := Tryz.underlying5
  a5 := Tryz.isAgg5
  z5 := Tryz.sizeOf5
  v5 := Tryz.zeroValue5
  t9 := Tryz.underlying9
  a9 := Tryz.isAgg9
  z9 := Tryz.sizeOf9
  v9 := Tryz.zeroValue9
  t20 := Tryz.underlying20
  a20 := Tryz.isAgg20
  z20 := Tryz.sizeOf20
  v20 := Tryz.zeroValue20
  t21 := Tryz.underlying21
  a21 := Tryz.isAgg21
  z21 := Tryz.sizeOf21
  v21 := Tryz.zeroValue21
  t37 := Tryz.underlying73
  a37 := Tryz.isAgg73
  z37 := Tryz.sizeOf73
  v37 := Tryz.zeroValue73
  t46 := Tryz.underlying68
  a46 := Tryz.isAgg68
  z46 := Tryz.sizeOf68
  v46 := Tryz.zeroValue68
  t51 := Tryz.underlying160
  a51 := Tryz.isAgg160
  z51 := Tryz.sizeOf160
  v51 := Tryz.zeroValue160
  t53 := Tryz.underlying65
  a53 := Tryz.isAgg65
  z53 := Tryz.sizeOf65
  v53 := Tryz.zeroValue65
  t75 := Tryz.underlying138
  a75 := Tryz.isAgg138
  z75 := Tryz.sizeOf138
  v75 := Tryz.zeroValue138
  t76 := Tryz.underlying139
  a76 := Tryz.isAgg139
  z76 := Tryz.sizeOf139
  v76 := Tryz.zeroValue139
  t85 := Tryz.underlying173
  a85 := Tryz.isAgg173
  z85 := Tryz.sizeOf173
  v85 := Tryz.zeroValue173
  t127 := Tryz.underlying147
  a127 := Tryz.isAgg147
  z127 := Tryz.sizeOf147
  v127 := Tryz.zeroValue147
  t143 := Tryz.underlying192
  a143 := Tryz.isAgg192
  z143 := Tryz.sizeOf192
  v143 := Tryz.zeroValue192
  t145 := Tryz.underlying194
  a145 := Tryz.isAgg194
  z145 := Tryz.sizeOf194
  v145 := Tryz.zeroValue194
  t167 := Tryz.underlying172
  a167 := Tryz.isAgg172
  z167 := Tryz.sizeOf172
  v167 := Tryz.zeroValue172
  t168 := Tryz.underlying175
  a168 := Tryz.isAgg175
  z168 := Tryz.sizeOf175
  v168 := Tryz.zeroValue175
  t171 := Tryz.underlying148
  a171 := Tryz.isAgg148
  z171 := Tryz.sizeOf148
  v171 := Tryz.zeroValue148
  t173 := Tryz.underlying151
  a173 := Tryz.isAgg151
  z173 := Tryz.sizeOf151
  v173 := Tryz.zeroValue151
  t175 := Tryz.underlying184
  a175 := Tryz.isAgg184
  z175 := Tryz.sizeOf184
  v175 := Tryz.zeroValue184
  t210 := Tryz.underlying188
  a210 := Tryz.isAgg188
  z210 := Tryz.sizeOf188
  v210 := Tryz.zeroValue188
  t212 := Tryz.underlying159
  a212 := Tryz.isAgg159
  z212 := Tryz.sizeOf159
  v212 := Tryz.zeroValue159
  t213 := Tryz.underlying161
  a213 := Tryz.isAgg161
  z213 := Tryz.sizeOf161
  t232 := Tryz.underlying178
  a232 := Tryz.isAgg178
  z232 := Tryz.sizeOf178
  v232 := Tryz.zeroValue178
  t233 := Tryz.underlying179
  a233 := Tryz.isAgg179
  z233 := Tryz.sizeOf179
  v233 := Tryz.zeroValue179
  g15 := by kernel_rfl
  g16 := by kernel_rfl
  g17 := by kernel_rfl
  g18 := by kernel_rfl
  g19 := by kernel_rfl
  t80 := Tryz.underlying141
  a80 := Tryz.isAgg141
  z80 := Tryz.sizeOf141
  v80 := Tryz.zeroValue141
  i0 := by kernel_rfl
  i2 := by kernel_rfl
  i3 := by kernel_rfl
  i4 := by kernel_rfl
  i5 := by kernel_rfl
  i9 := by kernel_rfl
  i20 := by kernel_rfl
  i21 := by kernel_rfl
  i37 := by kernel_rfl
  i46 := by kernel_rfl
  i51 := by kernel_rfl
  i53 := by kernel_rfl
  i75 := by kernel_rfl
  i76 := by kernel_rfl
  i80 := by kernel_rfl
  i85 := by kernel_rfl
  i127 := by kernel_rfl
  i143 := by kernel_rfl
  i145 := by kernel_rfl
  i167 := by kernel_rfl
  i168 := by kernel_rfl
  i171 := by kernel_rfl
  i173 := by kernel_rfl
  i175 := by kernel_rfl
  i210 := by kernel_rfl
  i212 := by kernel_rfl
  i232 := by kernel_rfl
  i233 := by kernel_rfl
  m15 := by kernel_rfl
  m16 := by kernel_rfl
  m17 := by kernel_rfl
  m18 := by kernel_rfl
  m19 := by kernel_rfl
  c0 := by kernel_rfl
  c2 := by kernel_rfl
  c3 := by kernel_rfl
  c4 := by kernel_rfl
  c5 := by kernel_rfl
  c9 := by kernel_rfl
  c20 := by kernel_rfl
  c21 := by kernel_rfl
  c37 := by kernel_rfl
  c46 := by kernel_rfl
  c51 := by kernel_rfl
  c53 := by kernel_rfl
  c75 := by kernel_rfl
  c76 := by kernel_rfl
  c80 := by kernel_rfl
  c85 := by kernel_rfl
  c127 := by kernel_rfl
  c143 := by kernel_rfl
  c145 := by kernel_rfl
  c167 := by kernel_rfl
  c168 := by kernel_rfl
  c171 := by kernel_rfl
  c173 := by kernel_rfl
  c175 := by kernel_rfl
  c210 := by kernel_rfl
  c212 := by kernel_rfl
  c213 := by kernel_rfl
  c232 := by kernel_rfl
  c233 := by kernel_rfl }
open Go.RowKit in
theorem Tryz.strconv_Atoi_ok (s : ByteArray) (hmax : s.size ≤ 9223372036854775806) (v : Int) (h : Lib.atoiAll s.data.toList = .ok v) (w : World) :
    Calls Tryz.prog 97 #[.string s] w fun e w' => e = .returned (.tuple #[.int .i64 v,.nilIface]) ∧ (w' = w ∨ ∃ t,w' = Lib.bytesWorld w 5 t) := Any.strconv_Atoi_ok Tryz.laysC172 s hmax v h w
open Go.RowKit in
theorem Tryz.atoi_syn (s : ByteArray) (hlim : s.size ≤ 281474976710656) (h1 : ∀ v, Lib.atoiAll s.data.toList ≠ .ok v) (h2 : Lib.atoiAll s.data.toList ≠ .range) (ev : Value) (w : World) (hv : w.cell? ⟨6,0,none⟩ = some ev) (hev : ev = .nilIface ∨ ∃ te pe,ev = .iface te pe) :
    Calls Tryz.prog 97 #[.string s] w fun e w' => ∃ N,e = .returned (.tuple #[.int .i64 (0),.iface 175 (.pointer (some ⟨N,0,none⟩))]) ∧ w.heap.size ≤ N ∧ w'.heap[N]? = some (.cells #[.string ⟨#[65,116,111,105]⟩,.string s,ev] 188 (0,0)) ∧ Below w.heap.size w w' := by
  cases hq : Lib.atoiAll s.data.toList with
  | ok v => exact absurd hq (h1 v)
  | range => exact absurd hq h2
  | _ => exact Any.strconv_Atoi_syntax Tryz.laysC172 s hlim hq ev w hv hev
open Go.RowKit in
theorem Tryz.strconv_Atoi_range (s : ByteArray) (hlim : s.size ≤ 281474976710656) (h : Lib.atoiAll s.data.toList = .range) (ev : Value) (w : World) (hv : w.cell? ⟨7,0,none⟩ = some ev) (hev : ev = .nilIface ∨ ∃ te pe,ev = .iface te pe) :
    Calls Tryz.prog 97 #[.string s] w fun e w' => ∃ N,e = .returned (.tuple #[.int .i64 (Lib.atoiSat s.data.toList),.iface 175 (.pointer (some ⟨N,0,none⟩))]) ∧ w.heap.size ≤ N ∧ w'.heap[N]? = some (.cells #[.string ⟨#[65,116,111,105]⟩,.string s,ev] 188 (0,0)) ∧ Below w.heap.size w w' := Any.strconv_Atoi_range Tryz.laysC172 s hlim h ev w hv hev
def Tryz.lays219_ren : Go.Shelf.Ren := ⟨fun | 219 => 93 | 217 => 105 | 225 => 106 | 224 => 107 | 267 => 108 | 266 => 116 | 314 => 117 | n => n,fun | 9 => 9 | 3 => 3 | 4 => 4 | 5 => 5 | 46 => 68 | 146 => 170 | 51 => 160 | n => n,fun | 1 => 1 | n => n⟩
def Tryz.lays145_ren : Go.Shelf.Ren := ⟨fun | 145 => 58 | 220 => 81 | 219 => 93 | 217 => 105 | 225 => 106 | 224 => 107 | 267 => 108 | 266 => 116 | 314 => 117 | n => n,fun | 9 => 9 | 4 => 4 | 59 => 111 | 3 => 3 | 5 => 5 | 46 => 68 | 146 => 170 | 51 => 160 | n => n,fun | 1 => 1 | n => n⟩
theorem Tryz.lays145 : Go.Proofs.Lays.n145 Tryz.prog Tryz.lays145_ren := {
  mixed := by kernel_rfl
  f145 := Tryz.func58.trans (congrArg some (by kernel_rfl))
  f217 := Tryz.func105.trans (congrArg some (by kernel_rfl))
  f219 := Tryz.func93.trans (congrArg some (by kernel_rfl))
  f220 := Tryz.func81.trans (congrArg some (by kernel_rfl))
  f224 := Tryz.func107.trans (congrArg some (by kernel_rfl))
  f225 := Tryz.func106.trans (congrArg some (by kernel_rfl))
  f266 := Tryz.func116.trans (congrArg some (by kernel_rfl))
  f267 := Tryz.func108.trans (congrArg some (by kernel_rfl))
  f314 := Tryz.func117.trans (congrArg some (by kernel_rfl))
  t3 := Tryz.underlying3
  a3 := Tryz.isAgg3
  z3 := Tryz.sizeOf3
  v3 := Tryz.zeroValue3
  t4 := Tryz.underlying4
  a4 := Tryz.isAgg4
  z4 := Tryz.sizeOf4
  v4 := Tryz.zeroValue4
  t5 := Tryz.underlying5
  a5 := Tryz.isAgg5
  z5 := Tryz.sizeOf5
  v5 := Tryz.zeroValue5
  t9 := Tryz.underlying9
  a9 := Tryz.isAgg9
  z9 := Tryz.sizeOf9
  v9 := Tryz.zeroValue9
  t46 := Tryz.underlying68
  a46 := Tryz.isAgg68
  z46 := Tryz.sizeOf68
  v46 := Tryz.zeroValue68
  t51 := Tryz.underlying160
  a51 := Tryz.isAgg160
  z51 := Tryz.sizeOf160
  v51 := Tryz.zeroValue160
  t59 := Tryz.underlying111
  a59 := Tryz.isAgg111
  z59 := Tryz.sizeOf111
  v59 := Tryz.zeroValue111
  t146 := Tryz.underlying170
  a146 := Tryz.isAgg170
  z146 := Tryz.sizeOf170
  v146 := Tryz.zeroValue170
  g1 := by kernel_rfl }
open Go.RowKit Go.Lib in
theorem Tryz.strings_Cut (s sep : ByteArray) (m : Int) (w : World) (hs : s.size < 4294967281) (hm : w.cell? ⟨1,0,none⟩ = some (.int .i64 m)) :
    Calls Tryz.prog 58 #[.string s,.string sep] w fun e w' => e = .returned (.tuple #[.string ⟨(Lib.cut s.data.toList sep.data.toList).1.toArray⟩,.string ⟨(Lib.cut s.data.toList sep.data.toList).2.1.toArray⟩,.bool (Lib.cut s.data.toList sep.data.toList).2.2]) ∧ ∃ n,w' = w.drewN n := Any.strings_Cut Tryz.lays145 s sep m w hs hm
def Tryz.lays221_ren : Go.Shelf.Ren := ⟨fun | 221 => 82 | 268 => 94 | 138 => 95 | 143 => 96 | 195 => 109 | 197 => 110 | 218 => 111 | 219 => 93 | 260 => 118 | 217 => 105 | 225 => 106 | 224 => 107 | 267 => 108 | 266 => 116 | 314 => 117 | n => n,fun | 9 => 9 | 3 => 3 | 31 => 37 | 4 => 4 | 0 => 0 | 105 => 166 | 21 => 21 | 5 => 5 | 46 => 68 | 119 => 180 | 139 => 183 | 138 => 182 | 146 => 170 | 51 => 160 | n => n,fun | 1 => 1 | 3 => 4 | 4 => 5 | n => n⟩
def Tryz.lays146_ren : Go.Shelf.Ren := ⟨fun | 146 => 59 | 221 => 82 | 268 => 94 | 138 => 95 | 143 => 96 | 195 => 109 | 197 => 110 | 218 => 111 | 219 => 93 | 260 => 118 | 217 => 105 | 225 => 106 | 224 => 107 | 267 => 108 | 266 => 116 | 314 => 117 | n => n,fun | 9 => 9 | 31 => 37 | 3 => 3 | 4 => 4 | 0 => 0 | 105 => 166 | 21 => 21 | 5 => 5 | 46 => 68 | 119 => 180 | 139 => 183 | 138 => 182 | 146 => 170 | 51 => 160 | n => n,fun | 1 => 1 | 3 => 4 | 4 => 5 | n => n⟩
theorem Tryz.lays146 : Go.Proofs.Lays.n146 Tryz.prog Tryz.lays146_ren := {
  mixed := by kernel_rfl
  f138 := Tryz.func95.trans (congrArg some (by kernel_rfl))
  f143 := Tryz.func96.trans (congrArg some (by kernel_rfl))
  f146 := Tryz.func59.trans (congrArg some (by kernel_rfl))
  f195 := Tryz.func109.trans (congrArg some (by kernel_rfl))
  f197 := Tryz.func110.trans (congrArg some (by kernel_rfl))
  f217 := Tryz.func105.trans (congrArg some (by kernel_rfl))
  f218 := Tryz.func111.trans (congrArg some (by kernel_rfl))
  f219 := Tryz.func93.trans (congrArg some (by kernel_rfl))
  f221 := Tryz.func82.trans (congrArg some (by kernel_rfl))
  f224 := Tryz.func107.trans (congrArg some (by kernel_rfl))
  f225 := Tryz.func106.trans (congrArg some (by kernel_rfl))
  f260 := Tryz.func118.trans (congrArg some (by kernel_rfl))
  f266 := Tryz.func116.trans (congrArg some (by kernel_rfl))
  f267 := Tryz.func108.trans (congrArg some (by kernel_rfl))
  f268 := Tryz.func94.trans (congrArg some (by kernel_rfl))
  f314 := Tryz.func117.trans (congrArg some (by kernel_rfl))
  t0 := Tryz.underlying0
  a0 := Tryz.isAgg0
  z0 := Tryz.sizeOf0
  v0 := Tryz.zeroValue0
  t3 := Tryz.underlying3
  a3 := Tryz.isAgg3
  z3 := Tryz.sizeOf3
  v3 := Tryz.zeroValue3
  t4 := Tryz.underlying4
  a4 := Tryz.isAgg4
  z4 := Tryz.sizeOf4
  v4 := Tryz.zeroValue4
  t5 := Tryz.underlying5
  a5 := Tryz.isAgg5
  z5 := Tryz.sizeOf5
  v5 := Tryz.zeroValue5
  t9 := Tryz.underlying9
  a9 := Tryz.isAgg9
  z9 := Tryz.sizeOf9
  v9 := Tryz.zeroValue9
  t21 := Tryz.underlying21
  a21 := Tryz.isAgg21
  z21 := Tryz.sizeOf21
  v21 := Tryz.zeroValue21
  t31 := Tryz.underlying37
  a31 := Tryz.isAgg37
  z31 := Tryz.sizeOf37
  v31 := Tryz.zeroValue37
  t46 := Tryz.underlying68
  a46 := Tryz.isAgg68
  z46 := Tryz.sizeOf68
  v46 := Tryz.zeroValue68
  t51 := Tryz.underlying160
  a51 := Tryz.isAgg160
  z51 := Tryz.sizeOf160
  v51 := Tryz.zeroValue160
  t105 := Tryz.underlying166
  a105 := Tryz.isAgg166
  z105 := Tryz.sizeOf166
  v105 := Tryz.zeroValue166
  t119 := Tryz.underlying180
  a119 := Tryz.isAgg180
  z119 := Tryz.sizeOf180
  t138 := Tryz.underlying182
  a138 := Tryz.isAgg182
  z138 := Tryz.sizeOf182
  v138 := Tryz.zeroValue182
  t139 := Tryz.underlying183
  a139 := Tryz.isAgg183
  z139 := Tryz.sizeOf183
  v139 := Tryz.zeroValue183
  t146 := Tryz.underlying170
  a146 := Tryz.isAgg170
  z146 := Tryz.sizeOf170
  v146 := Tryz.zeroValue170
  g1 := by kernel_rfl
  g3 := by kernel_rfl
  g4 := by kernel_rfl }
open Go.RowKit Go.Lib in
theorem Tryz.strings_Split (s sep : ByteArray) (m : Int) (w : World) (hs : s.size < 4294967281) (hm : w.cell? ⟨1,0,none⟩ = some (.int .i64 m)) (h1 : 1 ≤ sep.size) :
    Calls Tryz.prog 59 #[.string s,.string sep] w fun e w' =>
      e = .returned (.slice (some ⟨w.heap.size,0,none⟩) (Lib.countB s sep + 1) (Lib.countB s sep + 1)) ∧ w' = w.alloc (.cells ((Lib.splitB sep 0 (Lib.countB s sep) s).map Value.string).toArray 9) := Any.strings_Split Tryz.lays146 (by kernel_rfl) s sep m w hs hm h1
end Go.Proofs
namespace Go.Proofs.YtljefjngmembkaaGreatDoor
set_option linter.all false
open Go.RowKit
structure LibW (w : World) : Prop where
  tab : Lib.TabIs Tryz.prog w "internal/strconv.uint64pow10" .u64 Lib.pow10Tab
  room : 8 ≤ w.heap.size
  max : ∃ m : Int,w.cell? ⟨1,0,none⟩ = some (.int .i64 m)
  syn : ∃ ev : Value,w.cell? ⟨6,0,none⟩ = some ev ∧ (ev = .nilIface ∨ ∃ te pe,ev = .iface te pe)
  rng : ∃ ev : Value,w.cell? ⟨7,0,none⟩ = some ev ∧ (ev = .nilIface ∨ ∃ te pe,ev = .iface te pe)
theorem LibW.keep {w w' : World} {B : Nat} (h : LibW w) (hb : Below B w w') (hB : 8 ≤ B) : LibW w' := by
  obtain ⟨h1,h2,⟨m,h3⟩,⟨ev,h4,h5⟩,⟨er,h6,h7⟩⟩ := h
  refine ⟨?_,by have := hb.size; omega,⟨m,?_⟩,⟨ev,?_,h5⟩,⟨er,?_,h7⟩⟩
  · have hg : Tryz.prog.globalNamed "internal/strconv.uint64pow10" = some 0 := by kernel_rfl
    unfold Lib.TabIs World.var? at h1 ⊢
    rw [hg] at h1 ⊢
    simp only [Option.bind_some] at h1 ⊢
    rw [hb.block 0 (by omega)]
    exact h1
  · rw [hb.cell (p := ⟨1,0,none⟩) (by show 1 < B; omega)]; exact h3
  · rw [hb.cell (p := ⟨6,0,none⟩) (by show 6 < B; omega)]; exact h4
  · rw [hb.cell (p := ⟨7,0,none⟩) (by show 7 < B; omega)]; exact h6
theorem LibW.up {w w' : World} (h : LibW w) (hb : Below w.heap.size w w') : LibW w' := h.keep hb h.room
theorem below_bytes (w : World) (e : TypeId) (s : ByteArray) : Below w.heap.size w (Lib.bytesWorld w e s) := by
  unfold Lib.bytesWorld
  refine ⟨rfl,rfl,rfl,?_,?_⟩
  · simp [World.freeze]
  · intro k hk
    have h1 := Below.heap_alloc w.drew (.cells (Lib.bytesCells w e s) e) k hk
    unfold World.freeze
    rw [if_neg (by decide)]
    show ((w.drew.alloc (.cells (Lib.bytesCells w e s) e)).heap.modify w.heap.size _)[k]? = _
    rw [Array.getElem?_modify,if_neg (by omega)]
    exact h1
def AtoiEnd (l : List UInt8) (w : World) (e : Ending) (w' : World) : Prop :=
  Below w.heap.size w w' ∧ ((∃ v,Lib.atoiAll l = .ok v ∧ e = .returned (.tuple #[.int .i64 v,.nilIface])) ∨ ∃ v t p,(∀ n,Lib.atoiAll l ≠ .ok n) ∧ e = .returned (.tuple #[.int .i64 v,.iface t p]))
theorem atoi_any (s : ByteArray) (hs : s.size ≤ 1000000) (w : World) (h : LibW w) :
    Calls Tryz.prog 97 #[.string s] w (AtoiEnd s.data.toList w) := by
  cases hq : Lib.atoiAll s.data.toList with
  | ok v =>
    refine (Tryz.strconv_Atoi_ok s (by omega) v hq w).mono ?_
    rintro e w' ⟨rfl,hw⟩
    refine ⟨?_,.inl ⟨v,hq,rfl⟩⟩
    rcases hw with rfl | ⟨t,rfl⟩
    · exact Below.refl _ _
    · exact below_bytes _ _ _
  | range =>
    obtain ⟨ev,h1,h2⟩ := h.rng
    refine (Tryz.strconv_Atoi_range s (by omega) hq ev w h1 h2).mono ?_
    rintro e w' ⟨N,rfl,_,_,hb⟩
    exact ⟨hb,.inr ⟨_,_,_,(by rw [hq]; exact nofun),rfl⟩⟩
  | _ =>
    obtain ⟨ev,h1,h2⟩ := h.syn
    refine (Tryz.atoi_syn s (by omega) (by rw [hq]; exact nofun) (by rw [hq]; exact nofun) ev w h1 h2).mono ?_
    rintro e w' ⟨N,rfl,_,_,hb⟩
    exact ⟨hb,.inr ⟨_,_,_,(by rw [hq]; exact nofun),rfl⟩⟩
theorem bytes_eq (l : List UInt8) (s : ByteArray) : ((⟨l.toArray⟩ : ByteArray) = s) ↔ l = s.data.toList := by
  constructor
  · rintro rfl; simp
  · intro h; subst h; cases s; simp
def NumEnd (l : List UInt8) (w : World) (e : Ending) (w' : World) : Prop :=
  Below w.heap.size w w' ∧ ∃ v b,e = .returned (.tuple #[.int .i64 v,.bool b]) ∧ Tx.rdN (-999) 999 l = if b then some v else none
theorem itoa_any (n : Int) (h : -9223372036854775808 ≤ n ∧ n ≤ 9223372036854775807) (T : ByteArray) (hT : (⟨(Lib.itoa n).toArray⟩ : ByteArray) = T) (w : World) (hl : LibW w) :
    Calls Tryz.prog 31 #[.int .i64 n] w fun e w' => e = .returned (.string T) ∧ Below w.heap.size w w' := by
  refine (Tryz.strconv_Itoa n h.1 h.2 w hl.tab).mono ?_
  rintro e w' ⟨rfl,k,os,rfl⟩
  exact ⟨by rw [hT],Lib.below_grow _ w (Nat.le_refl _) k os⟩
theorem rd_no {l : List UInt8} (h : ∀ n,Lib.atoiAll l ≠ .ok n) (lo hi : Int) : Tx.rdN lo hi l = none := by
  unfold Tx.rdN
  split
  · rename_i n hn; exact absurd hn (h n)
  · rfl
theorem bytes_lists (a b : ByteArray) (h : a.toList = b.toList) : a = b := by
  have h1 : ∀ x : ByteArray,x.toList = x.data.toList := fun x => ByteArray.toList_eq x
  rw [h1,h1] at h
  cases a; cases b
  simp only at h
  rw [Array.toList_inj.1 h]
theorem num_end {s T : ByteArray} {v : Int} {b : Bool} (hq : Lib.atoiAll s.data.toList = .ok v) (hT : (⟨(Lib.itoa v).toArray⟩ : ByteArray) = T)
    (h : b = true ↔ T.toList = s.toList ∧ -999 ≤ v ∧ v ≤ 999) : Tx.rdN (-999) 999 s.data.toList = if b then some v else none := by
  unfold Tx.rdN
  rw [hq]
  simp only
  have he : Lib.itoa v = s.data.toList ↔ T.toList = s.toList := by
    rw [← bytes_eq,hT]
    exact ⟨fun h => by rw [h],bytes_lists _ _⟩
  by_cases hb : b = true
  · rw [if_pos hb,if_pos ⟨he.2 (h.1 hb).1,(h.1 hb).2⟩]
  · rw [if_neg hb,if_neg fun hc => hb (h.2 ⟨he.1 hc.1,hc.2⟩)]
set_option maxHeartbeats 1000000 in
theorem readNumber_err (s : ByteArray) (hs : s.size ≤ 1000000) (hq : ∀ n,Lib.atoiAll s.data.toList ≠ .ok n) (w : World) (h : LibW w) :
    Calls Tryz.prog 84 #[.string s] w (NumEnd s.data.toList w) := by
  have Hh : Hid (LibW w) := h
  clear h
  go_enter Tryz.func84,Tryz.ntmps84
  go_wp2_with (go_at_call 97; refine (atoi_any s hs _ Hh.out).mono ?_; rintro e w1 ⟨hb1,⟨v,hv,rfl⟩ | ⟨v,t,p,hv,rfl⟩⟩ <;> first | exact absurd hv (hq v) | skip)
  refine bodyPost_ret (v := .tuple #[.int .i64 v,.bool false]) (by simp [results,Tryz.results84,go_sem]) rfl ⟨hb1,v,false,rfl,rd_no hq _ _⟩
set_option maxHeartbeats 1000000 in
theorem readNumber_ok (s T : ByteArray) (v : Int) (hs : s.size ≤ 1000000) (hq : Lib.atoiAll s.data.toList = .ok v) (hT : (⟨(Lib.itoa v).toArray⟩ : ByteArray) = T) (w : World) (h : LibW w) :
    Calls Tryz.prog 84 #[.string s] w (NumEnd s.data.toList w) := by
  have Hh : Hid (LibW w) := h
  clear h
  have HT : Hid ((⟨(Lib.itoa v).toArray⟩ : ByteArray) = T) := hT
  clear hT
  have Hq : Hid (Lib.atoiAll s.data.toList = .ok v) := hq
  clear hq
  go_enter Tryz.func84,Tryz.ntmps84
  go_wp2_with (first | (go_at_call 97; refine (atoi_any s hs _ Hh.out).mono ?_; rintro e w1 ⟨hb1,⟨v',hv,rfl⟩ | ⟨v',t,p,hv,rfl⟩⟩ <;> first | exact absurd Hq.out (hv _) | (have ev : v' = v := (by have := hv.symm.trans Hq.out; injection this); clear hv; subst ev)) | (go_at_call 31; refine (itoa_any _ (Lib.atoiAll_bounds Hq.out) T HT.out _ (Hh.out.up hb1)).mono ?_; rintro e w2 ⟨rfl,hb2⟩))
  · rename_i h1 h2
    refine bodyPost_ret (v := .tuple #[.int .i64 v',.bool (decide (v' ≤ 999))]) (by simp [results,Tryz.results84,go_sem]) rfl ⟨hb1.trans (hb2.mono hb1.size),v',_,rfl,num_end Hq.out HT.out ?_⟩
    rw [decide_eq_true_iff]
    exact ⟨fun h => ⟨h1,h2,h⟩,fun h => h.2.2⟩
  · rename_i h1 h2
    refine bodyPost_ret (v := .tuple #[.int .i64 v',.bool false]) (by simp [results,Tryz.results84,go_sem]) rfl ⟨hb1.trans (hb2.mono hb1.size),v',_,rfl,num_end Hq.out HT.out ?_⟩
    exact ⟨(fun h => nomatch h),fun h => absurd h.2.1 (by omega)⟩
  · rename_i h1
    refine bodyPost_ret (v := .tuple #[.int .i64 v',.bool false]) (by simp [results,Tryz.results84,go_sem]) rfl ⟨hb1.trans (hb2.mono hb1.size),v',_,rfl,num_end Hq.out HT.out ?_⟩
    exact ⟨(fun h => nomatch h),fun h => absurd h.1 h1⟩
theorem readNumber_any (s : ByteArray) (hs : s.size ≤ 1000000) (w : World) (h : LibW w) :
    Calls Tryz.prog 84 #[.string s] w (NumEnd s.data.toList w) := by
  by_cases hq : ∃ n,Lib.atoiAll s.data.toList = .ok n
  · obtain ⟨n,hq⟩ := hq
    exact readNumber_ok s _ n hs hq rfl w h
  · exact readNumber_err s hs (fun n hn => hq ⟨n,hn⟩) w h
end Go.Proofs.YtljefjngmembkaaGreatDoor
namespace Go.Proofs.YtljefjngmembkaaGreatDoor
set_option linter.all false
open Go.RowKit
theorem cut_any (s : ByteArray) (hs : s.size ≤ 1000000) (c : UInt8) (l1 l2 : ByteArray) (b : Bool) (hc : Lib.cut s.data.toList [c] = (l1.data.toList,l2.data.toList,b)) (w : World) (h : LibW w) :
    Calls Tryz.prog 58 #[.string s,.string ⟨#[c]⟩] w fun e w' => e = .returned (.tuple #[.string l1,.string l2,.bool b]) ∧ Below w.heap.size w w' := by
  obtain ⟨m,hm⟩ := h.max
  refine (Tryz.strings_Cut s ⟨#[c]⟩ m w (by omega) hm).mono ?_
  rintro e w' ⟨rfl,n,rfl⟩
  refine ⟨?_,⟨rfl,rfl,rfl,Nat.le_refl _,fun _ _ => rfl⟩⟩
  have e1 : (⟨#[c]⟩ : ByteArray).data.toList = [c] := rfl
  rw [e1,hc]
def SpanEnd (l : List UInt8) (w : World) (e : Ending) (w' : World) : Prop :=
  Below w.heap.size w w' ∧ ∃ v u b,e = .returned (.tuple #[.agg #[.int .i64 v,.int .i64 u],.bool b]) ∧ Tx.rdS 58 (-999) 999 l = if b then some (v,u) else none
theorem span_end {l : List UInt8} {l1 l2 : List UInt8} {v u : Int} {b b1 b2 : Bool} (hc : Lib.cut l [58] = (l1,l2,b)) (h1 : Tx.rdN (-999) 999 l1 = if b1 then some v else none) (h2 : Tx.rdN (-999) 999 l2 = if b2 then some u else none) :
    Tx.rdS 58 (-999) 999 l = if (b && b1 && b2) then some (v,u) else none := by
  unfold Tx.rdS
  rw [hc]
  simp only
  rw [h1,h2]
  cases b <;> cases b1 <;> cases b2 <;> rfl
theorem cut_len (l : List UInt8) (c : UInt8) : (Lib.cut l [c]).1.length ≤ l.length ∧ (Lib.cut l [c]).2.1.length ≤ l.length := by
  by_cases hc : c ∈ l
  · obtain ⟨a,b,rfl,ha⟩ := Tx.first_at hc
    rw [Tx.cut_at ha]
    simp only [List.length_append,List.length_cons]
    omega
  · rw [Tx.cut_no hc]
    simp
theorem made {w w1 : World} {t : TypeId} {cs : Array Value} (hb : Below (w.alloc (.cells cs t)).heap.size (w.alloc (.cells cs t)) w1) : Bk w1 w.heap.size t cs ∧ Below w.heap.size w w1 ∧ w.heap.size < w1.heap.size := by
  have hz := hb.size
  rw [World.size_alloc] at hb hz
  refine ⟨(Bk.new w t cs).below hb (by omega),((Below.refl _ _).alloc (Nat.le_refl _) _).trans (hb.mono (by omega)),by omega⟩
theorem below0 (w : World) (o : Obj) : Below w.heap.size w (w.alloc o) := (Below.refl _ _).alloc (Nat.le_refl _) _
set_option maxHeartbeats 400000 in
set_option maxRecDepth 100000 in
theorem readSpan_any (s : ByteArray) (hs : s.size ≤ 1000000) (w : World) (h : LibW w) :
    Calls Tryz.prog 83 #[.string s] w (SpanEnd s.data.toList w) := by
  have Hh : Hid (LibW w) := h
  clear h
  obtain ⟨l1,l2,b,hc,hs1,hs2⟩ : ∃ (l1 l2 : ByteArray) (b : Bool),Lib.cut s.data.toList [58] = (l1.data.toList,l2.data.toList,b) ∧ l1.size ≤ 1000000 ∧ l2.size ≤ 1000000 := by
    refine ⟨⟨(Lib.cut s.data.toList [58]).1.toArray⟩,⟨(Lib.cut s.data.toList [58]).2.1.toArray⟩,(Lib.cut s.data.toList [58]).2.2,rfl,?_,?_⟩
    · exact Nat.le_trans (cut_len s.data.toList 58).1 hs
    · exact Nat.le_trans (cut_len s.data.toList 58).2 hs
  have HC : Hid (Lib.cut s.data.toList [58] = (l1.data.toList,l2.data.toList,b)) := hc
  clear hc
  have Hb0 : Hid (∀ o,Below w.heap.size w (w.alloc o)) := below0 w
  go_enter Tryz.func83,Tryz.ntmps83
  go_wp2_with (go_at_call 58; refine (cut_any s hs 58 l1 l2 b HC.out _ (Hh.out.up (Hb0.out _))).mono ?_; rintro e w1 ⟨rfl,hb1⟩; obtain ⟨k1,h1,hz1⟩ := made hb1; have HB1 := hidMk h1; have K1 := hidMk k1; clear h1 k1; clear hb1)
  refine (readNumber_any l1 hs1 w1 (Hh.out.up HB1.out)).mono ?_
  rintro e w2 ⟨hb2,v,b1,rfl,hr1⟩
  have HR1 := hidMk hr1
  clear hr1
  have hz2 : w1.heap.size ≤ w2.heap.size := hb2.size
  have HB2 := hidMk (HB1.out.trans (hb2.mono (by omega)))
  have K2 := hidMk (K1.out.below hb2 hz1)
  clear hb2
  go_wp2_with fail
  refine (readNumber_any l2 hs2 w2 (Hh.out.up HB2.out)).mono ?_
  rintro e w3 ⟨hb3,u,b2,rfl,hr2⟩
  have HR2 := hidMk hr2
  clear hr2
  have hz3 : w2.heap.size ≤ w3.heap.size := hb3.size
  have HB3 := hidMk (HB2.out.trans (hb3.mono (by omega)))
  have K3 := hidMk (K2.out.below hb3 (by omega))
  clear hb3
  have o0 := K3.out.at_ 0 _ rfl
  have o1 := K3.out.at_ 1 _ rfl
  have f0 := K3.out.free 0
  have f1 := K3.out.free 1
  clear K1 K2 HB1 HB2
  go_wp2
  · rename_i h1 h2
    refine bodyPost_ret (v := .tuple #[.agg #[.int .i64 v,.int .i64 u],.bool b2]) (by simp [results,Tryz.results83,go_sem,o0,o1]) rfl ⟨(HB3.out.setCell (by simp) _).setCell (by simp) _,v,u,_,rfl,?_⟩
    have := span_end HC.out HR1.out HR2.out
    rw [h1,h2,Bool.and_self,Bool.true_and] at this
    exact this
  · rename_i h1 h2
    refine bodyPost_ret (v := .tuple #[.agg #[.int .i64 v,.int .i64 u],.bool false]) (by simp [results,Tryz.results83,go_sem,o0,o1]) rfl ⟨(HB3.out.setCell (by simp) _).setCell (by simp) _,v,u,_,rfl,?_⟩
    have := span_end HC.out HR1.out HR2.out
    rw [h1,Bool.eq_false_iff.2 h2,Bool.and_false,Bool.false_and] at this
    exact this
  · rename_i h1
    refine bodyPost_ret (v := .tuple #[.agg #[.int .i64 v,.int .i64 u],.bool false]) (by simp [results,Tryz.results83,go_sem,o0,o1]) rfl ⟨(HB3.out.setCell (by simp) _).setCell (by simp) _,v,u,_,rfl,?_⟩
    have := span_end HC.out HR1.out HR2.out
    rw [Bool.eq_false_iff.2 h1,Bool.false_and,Bool.false_and] at this
    exact this
end Go.Proofs.YtljefjngmembkaaGreatDoor
namespace Go.Proofs.YtljefjngmembkaaGreatDoor
set_option linter.all false
open Go.RowKit
def Ss (w : World) (B : Nat) (bk o : Nat) (l : List ByteArray) : Prop :=
  bk < B ∧ ∀ k x,l[k]? = some x → w.cell? ⟨bk,o + k,none⟩ = some (.string x)
def lineB (l : List ByteArray) : ByteArray := ⟨(Lib.join (l.map (·.data.toList)) [32]).toArray⟩ ++ ⟨#[10]⟩
set_option maxHeartbeats 1000000 in
theorem lineOf_any (bk o c : Nat) (l : List ByteArray) (w : World) (h : Ss w w.heap.size bk o l) (hN : l.length ≤ 100000) (hc : l.length ≤ c) (hlen : (Lib.join (l.map (·.data.toList)) [32]).length ≤ 1000000) :
    Calls Tryz.prog 29 #[.slice (some ⟨bk,o,none⟩) l.length c] w fun e w' => e = .returned (.string (lineB l)) ∧ Below w.heap.size w w' := by
  obtain ⟨n,hn⟩ : ∃ n,n = l.length := ⟨_,rfl⟩
  obtain ⟨T,hT⟩ : ∃ T : ByteArray,T = ⟨(Lib.join (l.map (·.data.toList)) [32]).toArray⟩ := ⟨_,rfl⟩
  have HJ : Hid (Calls Tryz.prog 52 #[.slice (some ⟨bk,o,none⟩) n c,.string ⟨#[32]⟩] w fun e w' => e = .returned (.string T) ∧ Below w.heap.size w w') := by
    have := Tryz.strings_Join bk o c l ⟨#[32]⟩ w h.2 h.1 (by omega) hc (by have e : (⟨#[32]⟩ : ByteArray).data.toList = [32] := rfl; rw [e]; omega)
    rw [hn,hT]
    exact this
  have HL : Hid (lineB l = T ++ ⟨#[10]⟩) := by rw [hT]; rfl
  rw [HL.out,← hn]
  have hTs : T.size ≤ 1000000 := by rw [hT]; exact hlen
  clear hT hn h
  go_enter Tryz.func29,Tryz.ntmps29
  go_wp2_with (go_at_call 52; refine HJ.out.mono ?_; rintro e w1 ⟨rfl,hb1⟩)
  go_ret
  exact ⟨rfl,hb1⟩
end Go.Proofs.YtljefjngmembkaaGreatDoor
namespace Go.Proofs.YtljefjngmembkaaGreatDoor
set_option linter.all false
open Go.RowKit

theorem szJob : (Tryz.prog.info? 30).map (·.size) = some 18 := by kernel_rfl
theorem szRange : (Tryz.prog.info? 23).map (·.size) = some 2 := by kernel_rfl
theorem oneJob (K : Jb) (a : Option Addr) (n c : Nat) : (jobC K (.slice a n c)).all (·.oneCell') = true := by simp [jobC,Value.oneCell']
theorem checkNumber_any (n lo hi : Int) (w : World) :
    Calls Tryz.prog 51 #[.int .i64 n,.int .i64 lo,.int .i64 hi] w fun e w' => e = .returned (.int .i64 (numE n lo hi)) ∧ w = w' := by
  by_cases h1 : n < lo
  · have H : Hid (numE n lo hi = 1) := by show numE n lo hi = 1; simp [numE,h1]
    go_enter Tryz.func51,Tryz.ntmps51
    go_wp2
    go_ret
    exact ⟨by rw [H.out]; rfl,rfl⟩
  · by_cases h2 : hi < n
    · have H : Hid (numE n lo hi = 1) := by show numE n lo hi = 1; simp [numE,h2]
      go_enter Tryz.func51,Tryz.ntmps51
      go_wp2
      go_ret
      exact ⟨by rw [H.out]; rfl,rfl⟩
    · have H : Hid (numE n lo hi = 0) := by show numE n lo hi = 0; simp [numE,h1,h2]
      go_enter Tryz.func51,Tryz.ntmps51
      go_wp2
      go_ret
      exact ⟨by rw [H.out]; rfl,rfl⟩

theorem empty_any (a b : Int) (w : World) :
    Calls Tryz.prog 41 #[.agg #[.int .i64 a,.int .i64 b]] w fun e w' => e = .returned (.bool (decide (b < a))) ∧ w.alloc (.cells #[.int .i64 a,.int .i64 b] 23) = w' := by
  go_enter Tryz.func41,Tryz.ntmps41
  go_wp2
  go_ret
  exact ⟨rfl,rfl⟩

end Go.Proofs.YtljefjngmembkaaGreatDoor
namespace Go.Proofs.YtljefjngmembkaaGreatDoor
set_option linter.all false
open Go.RowKit

theorem region_via {P : Program} {id : Nat} {ops : Array Oper} {b : Bool} {Q : Exit → Act → World → Prop} {a : Act} {w : World} (R : Act → Exit → Act → World → Prop) (h : (Code.region id ops b).wp P (R a) a w) (hR : ∀ e a' w',R a e a' w' → Q e a' w') : (Code.region id ops b).wp P Q a w :=
  Code.wp_mono hR h
theorem yields_row {P : Program} {ops : Array Oper} {S : World → Prop} {op : Oper} {a : Act} (hw : Region.wanted op (yielded ops a.tmps) = true) (ty : TypeId) (x : Operand) (ho : op.op = .load ty x)
    (g : Nat) (cs : Array Value) (hx : a.eval x = .pointer (some ⟨g,0,none⟩)) (t : TypeId) (hS : ∀ w,S w → Bk w g t cs) {fs : Array Field} (hu : P.underlying ty = some (.struct fs)) (hi : (P.info? ty).map (·.size) = some cs.size) : YieldsIf P ops S op (.agg cs) a :=
  .inl ⟨hw,fun w hw' => by
    have hg := hS w hw'
    unfold execOp
    simp only [ho,hx,Instr.loadAt,Instr.sureAddr,Sem.run_bind,Sem.run_pure,Result.andThen_ok,run_loadVar_row w g _ ty cs _ _ hg hu rfl hi]⟩
end Go.Proofs.YtljefjngmembkaaGreatDoor
namespace Go.Proofs.YtljefjngmembkaaGreatDoor
set_option linter.all false
open Go.RowKit
def XS (w w' : World) (cs : Array Value) : Prop := Below w.heap.size w w' ∧ Bk w' w.heap.size 23 cs
theorem XS.drew {w w' : World} {cs : Array Value} (h : XS w w' cs) : XS w w'.drew cs := ⟨h.1.drew,h.2.drew⟩
theorem XS.next {w w' w'' : World} {cs : Array Value} (h : XS w w' cs) (hb : Below w'.heap.size w' w'') : XS w w'' cs := ⟨h.1.trans (hb.mono h.1.size),h.2.below hb h.2.lt⟩
theorem XS.new (w : World) (cs : Array Value) : XS w (w.alloc (.cells cs 23)) cs := ⟨below0 w _,Bk.new w _ cs⟩
def In64 (n : Int) : Prop := -1000000 ≤ n ∧ n ≤ 1000000
set_option maxHeartbeats 2000000 in
set_option maxRecDepth 100000 in
theorem span_any (a b : Int) (ha : In64 a) (hb : In64 b) (A B : ByteArray) (hA : (⟨(Lib.itoa a).toArray⟩ : ByteArray) = A) (hB : (⟨(Lib.itoa b).toArray⟩ : ByteArray) = B) (hs : A.size ≤ 100 ∧ B.size ≤ 100) (w : World) (h : LibW w) :
    Calls Tryz.prog 30 #[.agg #[.int .i64 a,.int .i64 b]] w fun e w' => e = .returned (.string (A ++ ⟨#[58]⟩ ++ B)) ∧ Below w.heap.size w w' := by
  have HA : Hid (∀ w',LibW w' → Calls Tryz.prog 31 #[.int .i64 a] w' fun e w'' => e = .returned (.string A) ∧ Below w'.heap.size w' w'') := fun w' hl => itoa_any a ⟨by have := ha.1; omega,by have := ha.2; omega⟩ A hA w' hl
  have HB : Hid (∀ w',LibW w' → Calls Tryz.prog 31 #[.int .i64 b] w' fun e w'' => e = .returned (.string B) ∧ Below w'.heap.size w' w'') := fun w' hl => itoa_any b ⟨by have := hb.1; omega,by have := hb.2; omega⟩ B hB w' hl
  have Hh : Hid (LibW w) := h
  clear hA hB ha hb h
  obtain ⟨hs1,hs2⟩ := hs
  have hS := XS.new w #[.int .i64 a,.int .i64 b]
  go_enter Tryz.func30,Tryz.ntmps30
  go_wp2_with fail
  refine region_via (R := fun a_ e a' w' => e = .normal ∧ ∃ (v3 v4 v5 v6 v7 v8 v9 v10 : Value),a' = (((((((((a_.put (some 3) v3).put (some 4) v4).put (some 5) v5).put (some 6) v6).put (some 7) v7).put (some 8) v8).put (some 9) v9).put (some 10) v10).put (some 2) (.string (A ++ ⟨#[58]⟩ ++ B))) ∧ XS w w' #[.int .i64 a,.int .i64 b]) ?_ ?_
  rotate_left
  · rintro e a' w' ⟨rfl,v3,v4,v5,v6,v7,v8,v9,v10,rfl,hs'⟩
    simp only [Act.put,aT,aZ,aS]
    have HS' := hidMk hs'
    clear hS hs'
    go_wp2_with fail
    go_ret
    exact ⟨rfl,HS'.out.1⟩
  refine wp_region_held_drew (S := fun w' => XS w w' #[.int .i64 a,.int .i64 b]) (by kernel_rfl) hS.drew (fun hS0 => ?_)
  generalize hWd : World.drew (w.alloc _) = wd at hS0 ⊢
  clear hWd hS
  refine wT (i := 0) (v := ?_) rfl (.inl ⟨by rfl,?_⟩) ?_
  rotate_left
  · (intro w' hSw; (try dsimp only at hSw); go_simp <;> with_reducible rfl)
  (try simp only [Act.put,aT,aZ,aS])
  refine wT (i := 1) (v := ?_) rfl (.inl ⟨by rfl,?_⟩) ?_
  rotate_left
  · (intro w' hSw; (try dsimp only at hSw); have j0 := hSw.2.at_ 0 (.int .i64 a) rfl; go_simp <;> with_reducible rfl)
  (try simp only [Act.put,aT,aZ,aS])
  refine wT (i := 4) (v := ?_) rfl (.inl ⟨by rfl,?_⟩) ?_
  rotate_left
  · (intro w' hSw; (try dsimp only at hSw); go_simp <;> with_reducible rfl)
  (try simp only [Act.put,aT,aZ,aS])
  refine wT (i := 5) (v := ?_) rfl (.inl ⟨by rfl,?_⟩) ?_
  rotate_left
  · (intro w' hSw; (try dsimp only at hSw); have j1 := hSw.2.at_ 1 (.int .i64 b) rfl; go_simp <;> with_reducible rfl)
  (try simp only [Act.put,aT,aZ,aS])
  refine wpAnyH_ready (rs := [2]) (by kernel_rfl) (by simp) ?_
  refine AllReadyH.cons rfl (fun K hK => ?_) ?_
  · go_simp
    go_at_call 31
    refine (HA.out _ (Hh.out.up hS0.1)).mono ?_
    rintro e w2 ⟨rfl,hb2⟩
    go_wp2_with fail
    have hS2 : XS w w2 #[.int .i64 a,.int .i64 b] := hS0.next hb2
    clear hb2
    refine hK.out _ _ hS2 (fun _ => ?_)
    clear hK K
    (try simp only [Act.put,aT,aZ,aS])
    refine wT (i := 3) (v := ?_) rfl (.inl ⟨by rfl,?_⟩) ?_
    rotate_left
    · (intro w' hSw; (try dsimp only at hSw); have z1 : ¬ 9223372036854775807 < A.size + 1 := (by omega); go_simp <;> with_reducible rfl)
    (try simp only [Act.put,aT,aZ,aS])
    refine wpAnyH_ready (rs := [6]) (by kernel_rfl) (by simp) ?_
    refine AllReadyH.cons rfl (fun K hK => ?_) ?_
    · go_simp
      go_at_call 31
      refine (HB.out _ (Hh.out.up hS2.1)).mono ?_
      rintro e w3 ⟨rfl,hb2⟩
      go_wp2_with fail
      have hS3 : XS w w3 #[.int .i64 a,.int .i64 b] := hS2.next hb2
      clear hb2
      refine hK.out _ _ hS3 (fun _ => ?_)
      clear hK K
      (try simp only [Act.put,aT,aZ,aS])
      refine wT (i := 7) (v := ?_) rfl (.inl ⟨by rfl,?_⟩) ?_
      rotate_left
      · (intro w' hSw; (try dsimp only at hSw); have z2 : ¬ 9223372036854775807 < A.size + 1 + B.size := (by omega); go_simp <;> with_reducible rfl)
      (try simp only [Act.put,aT,aZ,aS])
      refine wpAnyH_ready (rs := [8]) (by kernel_rfl) (by simp) ?_
      refine AllReadyH.cons rfl (fun K hK => ?_) ?_
      · go_simp
        refine hK.out _ _ hS3 (fun _ => ?_)
        clear hK K
        (try simp only [Act.put,aT,aZ,aS])
        refine wpAnyH_done (by kernel_rfl) ?_ _
        exact ⟨rfl,_,_,_,_,_,_,_,_,rfl,hS3⟩
      exact AllReadyH.nil
    exact AllReadyH.nil
  exact AllReadyH.nil
end Go.Proofs.YtljefjngmembkaaGreatDoor
