/- Part 18 of the proof: TxP. -/
import Derived.Maps.AppendAt
import Derived.Test.YtljefjngmembkaaGreatDoorT17
namespace Go.Proofs.YtljefjngmembkaaGreatDoor
set_option linter.all false
open Go.RowKit
abbrev bytes (l : List ByteArray) : List (List UInt8) := l.map (·.data.toList)
abbrev rlC (word : ByteArray) (rep : Bool) (r n : Nat) (fv : Value) : Array Value := #[.string word,.bool rep,.int .i64 r,.int .i64 n,fv]
structure AW (word : ByteArray) (rep : Bool) (r n : Nat) (fv : Value) (bp o : Nat) (l : List ByteArray) (w0 w : World) : Prop where
  below : Below w0.heap.size w0 w
  bk : Bk w w0.heap.size 116 (rlC word rep r n fv)
  ss : Ss w0 w0.heap.size bp o l
section
variable {word : ByteArray} {rep : Bool} {r n : Nat} {fv : Value} {w0 w : World} {bp o c : Nat} {l : List ByteArray}
theorem AW.next {w' : World} (h : AW word rep r n fv bp o l w0 w) (hb : Below w.heap.size w w') : AW word rep r n fv bp o l w0 w' := ⟨h.below.trans (hb.mono h.below.size),h.bk.below hb h.bk.lt,h.ss⟩
theorem AW.part (h : AW word rep r n fv bp o l w0 w) {k : Nat} {x : ByteArray} (hx : l[k]? = some x) : w.cell? ⟨bp,o + k,none⟩ = some (.string x) := (h.below.cell h.ss.1).trans (h.ss.2 k x hx)
theorem AW.grown {w' : World} {ob : Option Nat} (h : AW word rep r n fv bp o l w0 w) (hg : w.grownBy w' ob) (hob : ∀ q,ob = some q → w0.heap.size + 1 ≤ q) : AW word rep r n fv bp o l w0 w' :=
  ⟨⟨hg.os.trans h.below.os,hg.tape.trans h.below.tape,hg.output.trans h.below.output,Nat.le_trans h.below.size hg.size,fun q hq => (hg.block q (Nat.lt_of_lt_of_le hq h.below.size) (fun e => by have := hob q e.symm; omega)).trans (h.below.block q hq)⟩,h.bk.grown hg (fun e => by have := hob _ e.symm; omega),h.ss⟩
end
theorem rdParts_go_r {r i : Nat} {tl : List (List UInt8)} {ss : List R2} {ns : List Int} {p : List UInt8} (h : rdParts r tl = (rdParts (r - i) (tl.drop i)).map fun q => (ss ++ q.1,ns ++ q.2)) (hi : i < r) (hp : tl[i]? = some p) :
    (Tx.rdS 58 (-999) 999 p = none → rdParts r tl = none) ∧ ∀ s,Tx.rdS 58 (-999) 999 p = some s → rdParts r tl = (rdParts (r - (i + 1)) (tl.drop (i + 1))).map fun q => ((ss ++ [s]) ++ q.1,ns ++ q.2) := by
  obtain ⟨hl,he⟩ := List.getElem?_eq_some_iff.1 hp
  have e1 : r - i = (r - (i + 1)) + 1 := by omega
  rw [h,List.drop_eq_getElem_cons hl,he,e1,rdParts]
  refine ⟨fun hn => by rw [hn]; rfl,fun s hs => ?_⟩
  rw [hs]
  simp only [Option.map_map]
  congr 1
  funext q
  simp
theorem rdParts_go_n {r i : Nat} {tl : List (List UInt8)} {ss : List R2} {ns : List Int} {p : List UInt8} (h : rdParts r tl = (rdParts (r - i) (tl.drop i)).map fun q => (ss ++ q.1,ns ++ q.2)) (hi : r ≤ i) (hp : tl[i]? = some p) :
    (Tx.rdN (-999) 999 p = none → rdParts r tl = none) ∧ ∀ s,Tx.rdN (-999) 999 p = some s → rdParts r tl = (rdParts (r - (i + 1)) (tl.drop (i + 1))).map fun q => (ss ++ q.1,(ns ++ [s]) ++ q.2) := by
  obtain ⟨hl,he⟩ := List.getElem?_eq_some_iff.1 hp
  have e1 : r - i = 0 := by omega
  have e2 : r - (i + 1) = 0 := by omega
  rw [h,List.drop_eq_getElem_cons hl,he,e1,e2,rdParts]
  refine ⟨fun hn => by rw [hn]; rfl,fun s hs => ?_⟩
  rw [hs]
  simp only [Option.map_map]
  congr 1
  funext q
  simp
theorem rdParts_begin (r : Nat) (tl : List (List UInt8)) : rdParts r tl = (rdParts (r - 0) (tl.drop 0)).map fun q => (([] : List R2) ++ q.1,([] : List Int) ++ q.2) := by
  simp
theorem rdParts_end {r i : Nat} {tl : List (List UInt8)} {ss : List R2} {ns : List Int} (h : rdParts r tl = (rdParts (r - i) (tl.drop i)).map fun q => (ss ++ q.1,ns ++ q.2)) (hi : tl.length ≤ i) : rdParts r tl = some (ss,ns) := by
  rw [h,List.drop_eq_nil_of_le hi]
  cases r - i <;> simp [rdParts]
def Rows (r B1 i : Nat) (ss : List R2) (ns : List Int) (rv nv : Value) (w : World) : Prop :=
  ss.length = min i r ∧ ns.length = i - r ∧ B1 ≤ w.heap.size ∧
  ((i ≤ r ∧ ns = [] ∧ nv = .slice none 0 0 ∧ w.ownsRow B1 23 2 rv ss.length (rgCells ss)) ∨
   (r ≤ i ∧ ∃ B2 ra rc,rv = .slice ra ss.length rc ∧ (∀ q o,ra = some ⟨q,o,none⟩ → B1 ≤ q) ∧ Rg w B2 ra ss ∧ B1 ≤ B2 ∧ B2 ≤ w.heap.size ∧ w.ownsRow B2 3 1 nv ns.length (ns.map (Value.int .i64))))
section
variable {r B1 i : Nat} {ss : List R2} {ns : List Int} {rv nv : Value} {w w' : World}
theorem Rows.next (h : Rows r B1 i ss ns rv nv w) (hb : Below w.heap.size w w') : Rows r B1 i ss ns rv nv w' := by
  obtain ⟨h1,h2,h3,h⟩ := h
  refine ⟨h1,h2,Nat.le_trans h3 hb.size,?_⟩
  rcases h with ⟨a1,a2,a3,a4⟩ | ⟨b0,B2,ra,rc,b1,b2,b3,b4,b5,b6⟩
  · exact .inl ⟨a1,a2,a3,own_of' a4 (fun q _ hl => hb.block q hl)⟩
  · exact .inr ⟨b0,B2,ra,rc,b1,b2,b3.below (hb.mono b5),b4,Nat.le_trans b5 hb.size,own_of' b6 (fun q _ hl => hb.block q hl)⟩
theorem Rows.turn (h : Rows r B1 i ss ns rv nv w) (hi : r ≤ i) : ∃ B2 ra rc,rv = .slice ra ss.length rc ∧ (∀ q o,ra = some ⟨q,o,none⟩ → B1 ≤ q) ∧ Rg w B2 ra ss ∧ B1 ≤ B2 ∧ B2 ≤ w.heap.size ∧ w.ownsRow B2 3 1 nv ns.length (ns.map (Value.int .i64)) := by
  obtain ⟨h1,h2,h3,⟨a1,a2,a3,a4⟩ | ⟨_,h⟩⟩ := h
  · obtain ⟨ra,rc,e,_,hr,hq⟩ := rg_of_own a4
    subst a2 a3
    exact ⟨w.heap.size,ra,rc,e,hq,hr,h3,Nat.le_refl _,⟨rfl,.inl ⟨rfl,rfl⟩⟩⟩
  · exact h
theorem Rows.own (h : Rows r B1 i ss ns rv nv w) (hi : i < r) : ns = [] ∧ nv = .slice none 0 0 ∧ w.ownsRow B1 23 2 rv ss.length (rgCells ss) := by
  obtain ⟨h1,h2,h3,⟨a1,a2,a3,a4⟩ | ⟨h,_⟩⟩ := h
  · exact ⟨a2,a3,a4⟩
  · omega
theorem Rows.begin (r : Nat) (hB : B1 ≤ w.heap.size) : Rows r B1 0 [] [] (.slice none 0 0) (.slice none 0 0) w :=
  ⟨by simp,by simp,hB,.inl ⟨Nat.zero_le _,rfl,rfl,⟨rfl,.inl ⟨rfl,rfl⟩⟩⟩⟩
end
set_option maxHeartbeats 2000000 in
set_option maxRecDepth 1000000 in
theorem apr1e {word : ByteArray} {rep : Bool} {r n : Nat} {fv : Value} {w0 w : World} {bp o c : Nat} {l : List ByteArray} {Q : Exit → Act → World → Prop} {u0 u1 u4 u5 u6 u7 u8 u9 A0 A1 A2 A3 A4 A5 A6 A7 A8 A9 Aa Ab Ac Ad Ae Af Ag Ah Ai Aj Ak Al Am An Ao Ap Aq Ar As At Au Av Aw Ax Ay Az C0 C1 C2 C3 C4 C5 C6 C7 C8 C9 Ca Cb Cc Cd Ce Cf Cg Ch Ci Cj Ck Cl Cm Cn Co Cp Cq : Value} (hs : AW word rep r n fv bp o l w0 w) (hr : r ≤ 1000 ∧ n ≤ 1000 ∧ l.length ≤ 1000000) (hl : l.length = 1 + r + n) {x0 : ByteArray} (h0 : l[0]? = some x0) {bq : Bool} (hq : (!(x0.toList == word.toList)) = bq) (hK : ∀ (w' : World),AW word rep r n fv bp o l w0 w' → ∀ (v15 v16 v17 v18 v19 v20 v21 v22 v23 v24 v25 v26 v27 v28 v29 v30 : Value),Q .normal ⟨#[u0,u1,(.slice (some ⟨bp,o,none⟩) l.length c),(.pointer (some ⟨w0.heap.size,0,none⟩)),u4,u5,u6,u7,u8,u9,A0,A1,A2,A3,A4,v15,v16,v17,v18,v19,v20,v21,v22,v23,v24,v25,v26,v27,v28,v29,v30,(.bool bq),Am,An,Ao,Ap,Aq,Ar,As,At,Au,Av,Aw,Ax,Ay,Az,C0,C1,C2,C3,C4,C5,C6,C7,C8,C9,Ca,Cb,Cc,Cd,Ce,Cf,Cg,Ch,Ci,Cj,Ck,Cl,Cm,Cn,Co,Cp,Cq],[]⟩ w') : Code.wp Tryz.prog (Code.region 1 #[⟨some 15,.move (.tmp 2),37,"text.go:101",#[],none⟩,⟨some 16,.call { callee := .builtin .len,args := #[.tmp 15],argTypes := #[37] },3,"text.go:101",#[⟨0,.data⟩],none⟩,⟨some 17,.fieldAddr 116 (.tmp 3) 2,0,"text.go:101",#[],none⟩,⟨some 18,.load 3 (.tmp 17),3,"text.go:101",#[⟨2,.data⟩],none⟩,⟨some 19,.binOp .add 3 (.const (.int .i64 1)) (.tmp 18) 3,3,"text.go:101",#[⟨3,.data⟩],none⟩,⟨some 20,.fieldAddr 116 (.tmp 3) 3,0,"text.go:101",#[],none⟩,⟨some 21,.load 3 (.tmp 20),3,"text.go:101",#[⟨5,.data⟩],none⟩,⟨some 22,.binOp .add 3 (.tmp 19) (.tmp 21) 3,3,"text.go:101",#[⟨4,.data⟩,⟨6,.data⟩],none⟩,⟨some 23,.binOp .neq 3 (.tmp 16) (.tmp 22) 3,4,"text.go:101",#[⟨1,.data⟩,⟨7,.data⟩],none⟩,⟨some 24,.move (.tmp 23),4,"text.go:101",#[⟨8,.data⟩],none⟩,⟨some 25,.move (.tmp 2),37,"text.go:101",#[⟨9,.guard⟩],some (9,false)⟩,⟨some 26,.indexAddr 37 (.tmp 25) (.const (.int .i64 0)),0,"text.go:101",#[⟨10,.data⟩,⟨9,.guard⟩],some (9,false)⟩,⟨some 27,.load 9 (.tmp 26),9,"text.go:101",#[⟨11,.data⟩,⟨9,.guard⟩],some (9,false)⟩,⟨some 28,.fieldAddr 116 (.tmp 3) 0,0,"text.go:101",#[⟨9,.guard⟩],some (9,false)⟩,⟨some 29,.load 9 (.tmp 28),9,"text.go:101",#[⟨13,.data⟩,⟨9,.guard⟩],some (9,false)⟩,⟨some 30,.binOp .neq 9 (.tmp 27) (.tmp 29) 9,4,"text.go:101",#[⟨12,.data⟩,⟨14,.data⟩,⟨9,.guard⟩],some (9,false)⟩,⟨some 31,.pick (.tmp 24) (.const (.bool true)) (.tmp 30),4,"text.go:101",#[⟨9,.data⟩,⟨15,.data⟩],none⟩] true) Q ⟨#[u0,u1,(.slice (some ⟨bp,o,none⟩) l.length c),(.pointer (some ⟨w0.heap.size,0,none⟩)),u4,u5,u6,u7,u8,u9,A0,A1,A2,A3,A4,A5,A6,A7,A8,A9,Aa,Ab,Ac,Ad,Ae,Af,Ag,Ah,Ai,Aj,Ak,Al,Am,An,Ao,Ap,Aq,Ar,As,At,Au,Av,Aw,Ax,Ay,Az,C0,C1,C2,C3,C4,C5,C6,C7,C8,C9,Ca,Cb,Cc,Cd,Ce,Cf,Cg,Ch,Ci,Cj,Ck,Cl,Cm,Cn,Co,Cp,Cq],[]⟩ w := by
  have W1 : IntKind.i64.wrap ((1 : Int) + (r : Int)) = (1 : Int) + (r : Int) := IntWalk.i64_in _ (by omega)
  have W2 : IntKind.i64.wrap ((1 : Int) + (r : Int) + (n : Int)) = (1 : Int) + (r : Int) + (n : Int) := IntWalk.i64_in _ (by omega)
  have HL : ((l.length : Int) != (1 : Int) + (r : Int) + (n : Int)) = false := by simp; omega
  have hlp : 0 < l.length := by omega
  have HQ := hq
  clear hl
  refine region_via (R := fun a_ e_ a' w' => e_ = .normal ∧ ∃ (v15 v16 v17 v18 v19 v20 v21 v22 v23 v24 v25 v26 v27 v28 v29 v30 : Value),a' = (((((((((((((((((a_.put (some 15) v15).put (some 16) v16).put (some 17) v17).put (some 18) v18).put (some 19) v19).put (some 20) v20).put (some 21) v21).put (some 22) v22).put (some 23) v23).put (some 24) v24).put (some 25) v25).put (some 26) v26).put (some 27) v27).put (some 28) v28).put (some 29) v29).put (some 30) v30).put (some 31) (.bool bq)) ∧ AW word rep r n fv bp o l w0 w') ?_ ?_
  rotate_left
  · rintro e_ a' w' ⟨rfl,v15,v16,v17,v18,v19,v20,v21,v22,v23,v24,v25,v26,v27,v28,v29,v30,rfl,h1⟩
    simp only [Act.put,aT,aZ,aS]
    exact hK _ h1 _ _ _ _ _ _ _ _ _ _ _ _ _ _ _ _ 
  have hS : AW word rep r n fv bp o l w0 w.drew := hs.next (Below.refl _ _).drew
  refine wp_region_held_drew (S := AW word rep r n fv bp o l w0) (by kernel_rfl) hS (fun hS0 => ?_)
  clear hS0
  generalize w.drew = wd at hS ⊢
  refine wT (i := 0) (oi := ⟨some 15,.move (.tmp 2),37,"text.go:101",#[],none⟩) (v := ?_) rfl (.inl ⟨by rfl,?_⟩) ?_
  rotate_left
  · (intro w' hSw; (try dsimp only at hSw); go_simp <;> with_reducible rfl)
  (try simp only [Act.put,aT,aZ,aS])
  refine wT (i := 1) (oi := ⟨some 16,.call { callee := .builtin .len,args := #[.tmp 15],argTypes := #[37] },3,"text.go:101",#[⟨0,.data⟩],none⟩) (v := ?_) rfl (.inl ⟨by rfl,?_⟩) ?_
  rotate_left
  · (intro w' hSw; (try dsimp only at hSw); go_simp <;> with_reducible rfl)
  (try simp only [Act.put,aT,aZ,aS])
  refine wT (i := 2) (oi := ⟨some 17,.fieldAddr 116 (.tmp 3) 2,0,"text.go:101",#[],none⟩) (v := ?_) rfl (.inl ⟨by rfl,?_⟩) ?_
  rotate_left
  · (intro w' hSw; (try dsimp only at hSw); go_simp <;> with_reducible rfl)
  (try simp only [Act.put,aT,aZ,aS])
  refine wT (i := 3) (oi := ⟨some 18,.load 3 (.tmp 17),3,"text.go:101",#[⟨2,.data⟩],none⟩) (v := ?_) rfl (.inl ⟨by rfl,?_⟩) ?_
  rotate_left
  · (intro w' hSw; (try dsimp only at hSw); have q0 := hSw.bk.at_ 2 (.int .i64 r) rfl; go_simp <;> with_reducible rfl)
  (try simp only [Act.put,aT,aZ,aS])
  refine wT (i := 4) (oi := ⟨some 19,.binOp .add 3 (.const (.int .i64 1)) (.tmp 18) 3,3,"text.go:101",#[⟨3,.data⟩],none⟩) (v := ?_) rfl (.inl ⟨by rfl,?_⟩) ?_
  rotate_left
  · (intro w' hSw; (try dsimp only at hSw); have q0 := W1; go_simp <;> with_reducible rfl)
  (try simp only [Act.put,aT,aZ,aS])
  refine wT (i := 5) (oi := ⟨some 20,.fieldAddr 116 (.tmp 3) 3,0,"text.go:101",#[],none⟩) (v := ?_) rfl (.inl ⟨by rfl,?_⟩) ?_
  rotate_left
  · (intro w' hSw; (try dsimp only at hSw); go_simp <;> with_reducible rfl)
  (try simp only [Act.put,aT,aZ,aS])
  refine wT (i := 6) (oi := ⟨some 21,.load 3 (.tmp 20),3,"text.go:101",#[⟨5,.data⟩],none⟩) (v := ?_) rfl (.inl ⟨by rfl,?_⟩) ?_
  rotate_left
  · (intro w' hSw; (try dsimp only at hSw); have q0 := hSw.bk.at_ 3 (.int .i64 n) rfl; go_simp <;> with_reducible rfl)
  (try simp only [Act.put,aT,aZ,aS])
  refine wT (i := 7) (oi := ⟨some 22,.binOp .add 3 (.tmp 19) (.tmp 21) 3,3,"text.go:101",#[⟨4,.data⟩,⟨6,.data⟩],none⟩) (v := ?_) rfl (.inl ⟨by rfl,?_⟩) ?_
  rotate_left
  · (intro w' hSw; (try dsimp only at hSw); have q0 := W2; go_simp <;> with_reducible rfl)
  (try simp only [Act.put,aT,aZ,aS])
  refine wT (i := 8) (oi := ⟨some 23,.binOp .neq 3 (.tmp 16) (.tmp 22) 3,4,"text.go:101",#[⟨1,.data⟩,⟨7,.data⟩],none⟩) (v := ?_) rfl (.inl ⟨by rfl,?_⟩) ?_
  rotate_left
  · (intro w' hSw; (try dsimp only at hSw); have q0 := HL; go_simp <;> with_reducible rfl)
  (try simp only [Act.put,aT,aZ,aS])
  refine wT (i := 9) (oi := ⟨some 24,.move (.tmp 23),4,"text.go:101",#[⟨8,.data⟩],none⟩) (v := ?_) rfl (.inl ⟨by rfl,?_⟩) ?_
  rotate_left
  · (intro w' hSw; (try dsimp only at hSw); go_simp <;> with_reducible rfl)
  (try simp only [Act.put,aT,aZ,aS])
  refine wT (i := 10) (oi := ⟨some 25,.move (.tmp 2),37,"text.go:101",#[⟨9,.guard⟩],some (9,false)⟩) (v := ?_) rfl (.inl ⟨by rfl,?_⟩) ?_
  rotate_left
  · (intro w' hSw; (try dsimp only at hSw); go_simp <;> with_reducible rfl)
  (try simp only [Act.put,aT,aZ,aS])
  refine wT (i := 11) (oi := ⟨some 26,.indexAddr 37 (.tmp 25) (.const (.int .i64 0)),0,"text.go:101",#[⟨10,.data⟩,⟨9,.guard⟩],some (9,false)⟩) (v := ?_) rfl (.inl ⟨by rfl,?_⟩) ?_
  rotate_left
  · (intro w' hSw; (try dsimp only at hSw); have q0 := hlp; go_simp <;> with_reducible rfl)
  (try simp only [Act.put,aT,aZ,aS])
  refine wT (i := 12) (oi := ⟨some 27,.load 9 (.tmp 26),9,"text.go:101",#[⟨11,.data⟩,⟨9,.guard⟩],some (9,false)⟩) (v := ?_) rfl (.inl ⟨by rfl,?_⟩) ?_
  rotate_left
  · (intro w' hSw; (try dsimp only at hSw); have q0 : w'.cell? ⟨bp,o,none⟩ = some (.string x0) := hSw.part h0; go_simp <;> with_reducible rfl)
  (try simp only [Act.put,aT,aZ,aS])
  refine wT (i := 13) (oi := ⟨some 28,.fieldAddr 116 (.tmp 3) 0,0,"text.go:101",#[⟨9,.guard⟩],some (9,false)⟩) (v := ?_) rfl (.inl ⟨by rfl,?_⟩) ?_
  rotate_left
  · (intro w' hSw; (try dsimp only at hSw); go_simp <;> with_reducible rfl)
  (try simp only [Act.put,aT,aZ,aS])
  refine wT (i := 14) (oi := ⟨some 29,.load 9 (.tmp 28),9,"text.go:101",#[⟨13,.data⟩,⟨9,.guard⟩],some (9,false)⟩) (v := ?_) rfl (.inl ⟨by rfl,?_⟩) ?_
  rotate_left
  · (intro w' hSw; (try dsimp only at hSw); have q0 := hSw.bk.at_ 0 (.string word) rfl; go_simp <;> with_reducible rfl)
  (try simp only [Act.put,aT,aZ,aS])
  refine wT (i := 15) (oi := ⟨some 30,.binOp .neq 9 (.tmp 27) (.tmp 29) 9,4,"text.go:101",#[⟨12,.data⟩,⟨14,.data⟩,⟨9,.guard⟩],some (9,false)⟩) (v := ?_) rfl (.inl ⟨by rfl,?_⟩) ?_
  rotate_left
  · (intro w' hSw; (try dsimp only at hSw); have q0 := HQ; go_simp <;> with_reducible rfl)
  (try simp only [Act.put,aT,aZ,aS])
  refine wT (i := 16) (oi := ⟨some 31,.pick (.tmp 24) (.const (.bool true)) (.tmp 30),4,"text.go:101",#[⟨9,.data⟩,⟨15,.data⟩],none⟩) (v := ?_) rfl (.inl ⟨by rfl,?_⟩) ?_
  rotate_left
  · (intro w' hSw; (try dsimp only at hSw); go_simp <;> with_reducible rfl)
  (try simp only [Act.put,aT,aZ,aS])
  refine wpAnyH_done (by kernel_rfl) ?_ _
  exact ⟨rfl,_,_,_,_,_,_,_,_,_,_,_,_,_,_,_,_,rfl,hS⟩
set_option maxHeartbeats 2000000 in
set_option maxRecDepth 1000000 in
theorem apr1n {word : ByteArray} {rep : Bool} {r n : Nat} {fv : Value} {w0 w : World} {bp o c : Nat} {l : List ByteArray} {Q : Exit → Act → World → Prop} {u0 u1 u4 u5 u6 u7 u8 u9 A0 A1 A2 A3 A4 A5 A6 A7 A8 A9 Aa Ab Ac Ad Ae Af Ag Ah Ai Aj Ak Al Am An Ao Ap Aq Ar As At Au Av Aw Ax Ay Az C0 C1 C2 C3 C4 C5 C6 C7 C8 C9 Ca Cb Cc Cd Ce Cf Cg Ch Ci Cj Ck Cl Cm Cn Co Cp Cq : Value} (hs : AW word rep r n fv bp o l w0 w) (hr : r ≤ 1000 ∧ n ≤ 1000 ∧ l.length ≤ 1000000) (hl : l.length ≠ 1 + r + n) (hK : ∀ (w' : World),AW word rep r n fv bp o l w0 w' → ∀ (v15 v16 v17 v18 v19 v20 v21 v22 v23 v24 v25 v26 v27 v28 v29 v30 : Value),Q .normal ⟨#[u0,u1,(.slice (some ⟨bp,o,none⟩) l.length c),(.pointer (some ⟨w0.heap.size,0,none⟩)),u4,u5,u6,u7,u8,u9,A0,A1,A2,A3,A4,v15,v16,v17,v18,v19,v20,v21,v22,v23,v24,v25,v26,v27,v28,v29,v30,(.bool true),Am,An,Ao,Ap,Aq,Ar,As,At,Au,Av,Aw,Ax,Ay,Az,C0,C1,C2,C3,C4,C5,C6,C7,C8,C9,Ca,Cb,Cc,Cd,Ce,Cf,Cg,Ch,Ci,Cj,Ck,Cl,Cm,Cn,Co,Cp,Cq],[]⟩ w') : Code.wp Tryz.prog (Code.region 1 #[⟨some 15,.move (.tmp 2),37,"text.go:101",#[],none⟩,⟨some 16,.call { callee := .builtin .len,args := #[.tmp 15],argTypes := #[37] },3,"text.go:101",#[⟨0,.data⟩],none⟩,⟨some 17,.fieldAddr 116 (.tmp 3) 2,0,"text.go:101",#[],none⟩,⟨some 18,.load 3 (.tmp 17),3,"text.go:101",#[⟨2,.data⟩],none⟩,⟨some 19,.binOp .add 3 (.const (.int .i64 1)) (.tmp 18) 3,3,"text.go:101",#[⟨3,.data⟩],none⟩,⟨some 20,.fieldAddr 116 (.tmp 3) 3,0,"text.go:101",#[],none⟩,⟨some 21,.load 3 (.tmp 20),3,"text.go:101",#[⟨5,.data⟩],none⟩,⟨some 22,.binOp .add 3 (.tmp 19) (.tmp 21) 3,3,"text.go:101",#[⟨4,.data⟩,⟨6,.data⟩],none⟩,⟨some 23,.binOp .neq 3 (.tmp 16) (.tmp 22) 3,4,"text.go:101",#[⟨1,.data⟩,⟨7,.data⟩],none⟩,⟨some 24,.move (.tmp 23),4,"text.go:101",#[⟨8,.data⟩],none⟩,⟨some 25,.move (.tmp 2),37,"text.go:101",#[⟨9,.guard⟩],some (9,false)⟩,⟨some 26,.indexAddr 37 (.tmp 25) (.const (.int .i64 0)),0,"text.go:101",#[⟨10,.data⟩,⟨9,.guard⟩],some (9,false)⟩,⟨some 27,.load 9 (.tmp 26),9,"text.go:101",#[⟨11,.data⟩,⟨9,.guard⟩],some (9,false)⟩,⟨some 28,.fieldAddr 116 (.tmp 3) 0,0,"text.go:101",#[⟨9,.guard⟩],some (9,false)⟩,⟨some 29,.load 9 (.tmp 28),9,"text.go:101",#[⟨13,.data⟩,⟨9,.guard⟩],some (9,false)⟩,⟨some 30,.binOp .neq 9 (.tmp 27) (.tmp 29) 9,4,"text.go:101",#[⟨12,.data⟩,⟨14,.data⟩,⟨9,.guard⟩],some (9,false)⟩,⟨some 31,.pick (.tmp 24) (.const (.bool true)) (.tmp 30),4,"text.go:101",#[⟨9,.data⟩,⟨15,.data⟩],none⟩] true) Q ⟨#[u0,u1,(.slice (some ⟨bp,o,none⟩) l.length c),(.pointer (some ⟨w0.heap.size,0,none⟩)),u4,u5,u6,u7,u8,u9,A0,A1,A2,A3,A4,A5,A6,A7,A8,A9,Aa,Ab,Ac,Ad,Ae,Af,Ag,Ah,Ai,Aj,Ak,Al,Am,An,Ao,Ap,Aq,Ar,As,At,Au,Av,Aw,Ax,Ay,Az,C0,C1,C2,C3,C4,C5,C6,C7,C8,C9,Ca,Cb,Cc,Cd,Ce,Cf,Cg,Ch,Ci,Cj,Ck,Cl,Cm,Cn,Co,Cp,Cq],[]⟩ w := by
  have W1 : IntKind.i64.wrap ((1 : Int) + (r : Int)) = (1 : Int) + (r : Int) := IntWalk.i64_in _ (by omega)
  have W2 : IntKind.i64.wrap ((1 : Int) + (r : Int) + (n : Int)) = (1 : Int) + (r : Int) + (n : Int) := IntWalk.i64_in _ (by omega)
  have HL : ((l.length : Int) != (1 : Int) + (r : Int) + (n : Int)) = true := by simp; omega
  skip
  skip
  clear hl
  refine region_via (R := fun a_ e_ a' w' => e_ = .normal ∧ ∃ (v15 v16 v17 v18 v19 v20 v21 v22 v23 v24 v25 v26 v27 v28 v29 v30 : Value),a' = (((((((((((((((((a_.put (some 15) v15).put (some 16) v16).put (some 17) v17).put (some 18) v18).put (some 19) v19).put (some 20) v20).put (some 21) v21).put (some 22) v22).put (some 23) v23).put (some 24) v24).put (some 25) v25).put (some 26) v26).put (some 27) v27).put (some 28) v28).put (some 29) v29).put (some 30) v30).put (some 31) (.bool true)) ∧ AW word rep r n fv bp o l w0 w') ?_ ?_
  rotate_left
  · rintro e_ a' w' ⟨rfl,v15,v16,v17,v18,v19,v20,v21,v22,v23,v24,v25,v26,v27,v28,v29,v30,rfl,h1⟩
    simp only [Act.put,aT,aZ,aS]
    exact hK _ h1 _ _ _ _ _ _ _ _ _ _ _ _ _ _ _ _ 
  have hS : AW word rep r n fv bp o l w0 w.drew := hs.next (Below.refl _ _).drew
  refine wp_region_held_drew (S := AW word rep r n fv bp o l w0) (by kernel_rfl) hS (fun hS0 => ?_)
  clear hS0
  generalize w.drew = wd at hS ⊢
  refine wT (i := 0) (oi := ⟨some 15,.move (.tmp 2),37,"text.go:101",#[],none⟩) (v := ?_) rfl (.inl ⟨by rfl,?_⟩) ?_
  rotate_left
  · (intro w' hSw; (try dsimp only at hSw); go_simp <;> with_reducible rfl)
  (try simp only [Act.put,aT,aZ,aS])
  refine wT (i := 1) (oi := ⟨some 16,.call { callee := .builtin .len,args := #[.tmp 15],argTypes := #[37] },3,"text.go:101",#[⟨0,.data⟩],none⟩) (v := ?_) rfl (.inl ⟨by rfl,?_⟩) ?_
  rotate_left
  · (intro w' hSw; (try dsimp only at hSw); go_simp <;> with_reducible rfl)
  (try simp only [Act.put,aT,aZ,aS])
  refine wT (i := 2) (oi := ⟨some 17,.fieldAddr 116 (.tmp 3) 2,0,"text.go:101",#[],none⟩) (v := ?_) rfl (.inl ⟨by rfl,?_⟩) ?_
  rotate_left
  · (intro w' hSw; (try dsimp only at hSw); go_simp <;> with_reducible rfl)
  (try simp only [Act.put,aT,aZ,aS])
  refine wT (i := 3) (oi := ⟨some 18,.load 3 (.tmp 17),3,"text.go:101",#[⟨2,.data⟩],none⟩) (v := ?_) rfl (.inl ⟨by rfl,?_⟩) ?_
  rotate_left
  · (intro w' hSw; (try dsimp only at hSw); have q0 := hSw.bk.at_ 2 (.int .i64 r) rfl; go_simp <;> with_reducible rfl)
  (try simp only [Act.put,aT,aZ,aS])
  refine wT (i := 4) (oi := ⟨some 19,.binOp .add 3 (.const (.int .i64 1)) (.tmp 18) 3,3,"text.go:101",#[⟨3,.data⟩],none⟩) (v := ?_) rfl (.inl ⟨by rfl,?_⟩) ?_
  rotate_left
  · (intro w' hSw; (try dsimp only at hSw); have q0 := W1; go_simp <;> with_reducible rfl)
  (try simp only [Act.put,aT,aZ,aS])
  refine wT (i := 5) (oi := ⟨some 20,.fieldAddr 116 (.tmp 3) 3,0,"text.go:101",#[],none⟩) (v := ?_) rfl (.inl ⟨by rfl,?_⟩) ?_
  rotate_left
  · (intro w' hSw; (try dsimp only at hSw); go_simp <;> with_reducible rfl)
  (try simp only [Act.put,aT,aZ,aS])
  refine wT (i := 6) (oi := ⟨some 21,.load 3 (.tmp 20),3,"text.go:101",#[⟨5,.data⟩],none⟩) (v := ?_) rfl (.inl ⟨by rfl,?_⟩) ?_
  rotate_left
  · (intro w' hSw; (try dsimp only at hSw); have q0 := hSw.bk.at_ 3 (.int .i64 n) rfl; go_simp <;> with_reducible rfl)
  (try simp only [Act.put,aT,aZ,aS])
  refine wT (i := 7) (oi := ⟨some 22,.binOp .add 3 (.tmp 19) (.tmp 21) 3,3,"text.go:101",#[⟨4,.data⟩,⟨6,.data⟩],none⟩) (v := ?_) rfl (.inl ⟨by rfl,?_⟩) ?_
  rotate_left
  · (intro w' hSw; (try dsimp only at hSw); have q0 := W2; go_simp <;> with_reducible rfl)
  (try simp only [Act.put,aT,aZ,aS])
  refine wT (i := 8) (oi := ⟨some 23,.binOp .neq 3 (.tmp 16) (.tmp 22) 3,4,"text.go:101",#[⟨1,.data⟩,⟨7,.data⟩],none⟩) (v := ?_) rfl (.inl ⟨by rfl,?_⟩) ?_
  rotate_left
  · (intro w' hSw; (try dsimp only at hSw); have q0 := HL; go_simp <;> with_reducible rfl)
  (try simp only [Act.put,aT,aZ,aS])
  refine wT (i := 9) (oi := ⟨some 24,.move (.tmp 23),4,"text.go:101",#[⟨8,.data⟩],none⟩) (v := ?_) rfl (.inl ⟨by rfl,?_⟩) ?_
  rotate_left
  · (intro w' hSw; (try dsimp only at hSw); go_simp <;> with_reducible rfl)
  (try simp only [Act.put,aT,aZ,aS])
  refine wT (i := 10) (oi := ⟨some 25,.move (.tmp 2),37,"text.go:101",#[⟨9,.guard⟩],some (9,false)⟩) (v := undef) rfl (.inr ⟨by rfl,rfl⟩) ?_
  (try simp only [Act.put,aT,aZ,aS])
  refine wT (i := 11) (oi := ⟨some 26,.indexAddr 37 (.tmp 25) (.const (.int .i64 0)),0,"text.go:101",#[⟨10,.data⟩,⟨9,.guard⟩],some (9,false)⟩) (v := undef) rfl (.inr ⟨by rfl,rfl⟩) ?_
  (try simp only [Act.put,aT,aZ,aS])
  refine wT (i := 12) (oi := ⟨some 27,.load 9 (.tmp 26),9,"text.go:101",#[⟨11,.data⟩,⟨9,.guard⟩],some (9,false)⟩) (v := undef) rfl (.inr ⟨by rfl,rfl⟩) ?_
  (try simp only [Act.put,aT,aZ,aS])
  refine wT (i := 13) (oi := ⟨some 28,.fieldAddr 116 (.tmp 3) 0,0,"text.go:101",#[⟨9,.guard⟩],some (9,false)⟩) (v := undef) rfl (.inr ⟨by rfl,rfl⟩) ?_
  (try simp only [Act.put,aT,aZ,aS])
  refine wT (i := 14) (oi := ⟨some 29,.load 9 (.tmp 28),9,"text.go:101",#[⟨13,.data⟩,⟨9,.guard⟩],some (9,false)⟩) (v := undef) rfl (.inr ⟨by rfl,rfl⟩) ?_
  (try simp only [Act.put,aT,aZ,aS])
  refine wT (i := 15) (oi := ⟨some 30,.binOp .neq 9 (.tmp 27) (.tmp 29) 9,4,"text.go:101",#[⟨12,.data⟩,⟨14,.data⟩,⟨9,.guard⟩],some (9,false)⟩) (v := undef) rfl (.inr ⟨by rfl,rfl⟩) ?_
  (try simp only [Act.put,aT,aZ,aS])
  refine wT (i := 16) (oi := ⟨some 31,.pick (.tmp 24) (.const (.bool true)) (.tmp 30),4,"text.go:101",#[⟨9,.data⟩,⟨15,.data⟩],none⟩) (v := ?_) rfl (.inl ⟨by rfl,?_⟩) ?_
  rotate_left
  · (intro w' hSw; (try dsimp only at hSw); go_simp <;> with_reducible rfl)
  (try simp only [Act.put,aT,aZ,aS])
  refine wpAnyH_done (by kernel_rfl) ?_ _
  exact ⟨rfl,_,_,_,_,_,_,_,_,_,_,_,_,_,_,_,_,rfl,hS⟩
end Go.Proofs.YtljefjngmembkaaGreatDoor
