import Derived.Test.YtkjgachpmebipaiGreatDoorSimJ
import Derived.Laws.Append
/- The operations that write, each. -/
namespace Go.Sim
set_option linter.all false
open Go
variable [Rho] [Asm] [SymOK]

section
variable {P : Program} {ι : Io} {T : Tm} {a : Act} {s : St} {w : World}

/-- What an operation does that changes memory. -/
def Does (P : Program) (ι : Io) (s : St) (w : World) (a : Act) (o : Oper) (v : Value) (s1 : St) : Prop :=
  ∃ v' ι' w', VR ι' v v' ∧ Po P ι s w ι' s1 w' ∧ ((execOp a.eval o).run P w = .ok (.value v') w' ∨ ((execOp a.eval o).run P w = .ok .skip w' ∧ v' = undef))

theorem undef_ok (ι : Io) : VR ι (.tuple ⟨[]⟩) undef := .tup .nil

theorem ER.length : ∀ {es : List (Value × Value)} {en : List MapEntry}, ER ι es en → es.length = en.length
  | _, _, .nil => rfl
  | _, _, .cons _ _ h => by simp [h.length]
theorem ER.append : ∀ {es : List (Value × Value)} {en : List MapEntry} {k v : Value} {e : MapEntry}, ER ι es en → VR ι k e.key → VR ι v e.val → ER ι (es ++ [(k, v)]) (en ++ [e])
  | _, _, _, _, _, .nil, h1, h2 => .cons h1 h2 .nil
  | _, _, _, _, _, .cons h3 h4 h5, h1, h2 => .cons h3 h4 (h5.append h1 h2)
theorem ER.set : ∀ {es : List (Value × Value)} {en : List MapEntry} {k v : Value} {j : Nat} {f : MapEntry → MapEntry}, ER ι es en → (∀ e, VR ι k (f e).key ∧ VR ι v (f e).val) → ER ι (es.set j (k, v)) (en.modify j f)
  | _, _, _, _, _, _, .nil, _ => by simp; exact .nil
  | _, _, _, _, 0, f, .cons (e := e) h3 h4 h5, h => by simp; exact .cons (h e).1 (h e).2 h5
  | _, _, _, _, j + 1, f, .cons h3 h4 h5, h => by simp; exact .cons h3 h4 (h5.set h)
theorem ins_ok {kl : List Value} {kv v : Value} : ∀ {es es' : List (Value × Value)}, insertM kl kv v es = some es' → (look kl es = some none ∧ es' = es ++ [(kv, v)]) ∨
    ∃ x y, look kl es = some (some y) ∧ es[idxL kl es]? = some (x, y) ∧ sameL kl (cellsOf x) = some true ∧ es' = es.set (idxL kl es) (kv, v)
  | [], es', h => by
    simp only [insertM, Option.some.injEq] at h
    subst h
    exact .inl ⟨rfl, rfl⟩
  | (x, y) :: es, es', h => by
    simp only [insertM] at h
    split at h
    · rename_i hs
      cases h
      exact .inr ⟨x, y, by simp only [look, hs], by simp [idxL, hs], hs, by simp [idxL, hs]⟩
    · rename_i hs
      split at h
      · rename_i r hr
        cases h
        rcases ins_ok hr with ⟨h1, rfl⟩ | ⟨x', y', h1, h2, h3, rfl⟩
        · exact .inl ⟨by simp only [look, hs, h1], rfl⟩
        · exact .inr ⟨x', y', by simp only [look, hs, h1], by simp [idxL, hs, h2], h3, by simp [idxL, hs]⟩
      · cases h
    · cases h
theorem ER.at_ : ∀ {es : List (Value × Value)} {en : List MapEntry} {j : Nat} {x y : Value}, ER ι es en → es[j]? = some (x, y) → ∃ e, en[j]? = some e ∧ VR ι x e.key ∧ VR ι y e.val
  | _, _, _, _, _, .nil, h => by simp at h
  | _, _, 0, _, _, .cons (e := e) h3 h4 h5, h => by simp at h; obtain ⟨rfl, rfl⟩ := h; exact ⟨e, by simp, h3, h4⟩
  | _, _, j + 1, _, _, .cons h3 h4 h5, h => by simp at h ⊢; exact h5.at_ h

theorem same_bits {n : Nat} {ag : Bool} {k x k' x' : Value} (hk : keyed n ag k = true) (hx : keyed n ag x = true) (hkv : VR ι k k') (hxv : VR ι x x') (hs : sameL (cellsOf k) (cellsOf x) = some true) : Instr.sameBits 10000 x' k' = true := by
  obtain ⟨e1, e2⟩ := sameL_true hs
  have hint : ∀ (l l' : List Value), LR ι l l' → (∀ y ∈ l, ∃ k n, y = .int k n) → l' = l := by
    intro l l' h
    induction l generalizing l' with
    | nil => intro _; cases h; rfl
    | cons y l ih =>
      intro hy
      cases h with
      | cons hv hl =>
        obtain ⟨k, n, rfl⟩ := hy y List.mem_cons_self
        rw [hv.intI, ih _ hl fun z hz => hy z (List.mem_cons_of_mem _ hz)]
  have hzip : ∀ (l : List Value) (p : Value × Value), p ∈ l.zip l → p.1 = p.2 ∧ p.1 ∈ l := by
    intro l
    induction l with
    | nil => intro p hp; simp at hp
    | cons y l ih =>
      intro p hp
      simp only [List.zip_cons_cons, List.mem_cons] at hp
      rcases hp with rfl | hp
      · exact ⟨rfl, List.mem_cons_self⟩
      · exact ⟨(ih p hp).1, List.mem_cons_of_mem _ (ih p hp).2⟩
  have hself : ∀ y : Value, (∃ k n, y = .int k n) → ∀ d, Instr.sameBits d y y = true := by
    rintro _ ⟨k, n, rfl⟩ d
    cases d <;> simp [Instr.sameBits]
  cases ag with
  | true =>
    cases k with
    | agg l =>
      cases x with
      | agg m =>
        obtain ⟨l⟩ := l
        obtain ⟨m⟩ := m
        obtain ⟨l', rfl, hl⟩ := hkv.aggI
        obtain ⟨m', rfl, hm⟩ := hxv.aggI
        have e1' : m = l := e1
        have e2' : ∀ y ∈ l, ∃ k n, y = .int k n := e2
        rw [hint _ _ hl e2', hint _ _ hm (e1' ▸ e2'), e1']
        simp only [Instr.sameBits, BEq.rfl, Bool.true_and, List.all_eq_true]
        intro p hp
        obtain ⟨q1, q2⟩ := hzip l p hp
        rw [← q1]
        exact hself _ (e2' _ q2) _
      | _ => simp [keyed] at hx
    | _ => simp [keyed] at hk
  | false =>
    cases k with
    | int k1 n1 =>
      cases x with
      | int k2 n2 =>
        rw [hkv.intI, hxv.intI]
        have e1' : [Value.int k2 n2] = [Value.int k1 n1] := e1
        cases e1'
        exact hself _ ⟨_, _, rfl⟩ _
      | _ => simp [keyed] at hx
    | _ => simp [keyed] at hk

theorem evSt_ok {t : TypeId} {n : Nat} {ad x : Operand} {ad' x' : Opd} {β : Type} {k : Value → St → Option β} {res : β} {dst : Option Tmp} {ty : TypeId} {pos : String} {after : Array Edge} {guard : Option (Nat × Bool)}
    (hn : szOf P t = some n) (ha : compX ad = some ad') (hx : compX x = some x') (hT : TR ι T a.tmps) (hW : WR P ι s w) (he : w_st n ad' x' T s k = some res) :
    ∃ v s1, k v s1 = some res ∧ Does P ι s w a ⟨dst, .store t ad x, ty, pos, after, guard⟩ v s1 := by
  have h1 := compX_ok ha hT
  have h2 := compX_ok hx hT
  simp only [w_st] at he
  split at he
  · rename_i b o e1
    rw [e1] at h1
    obtain ⟨r, c, hr, hb⟩ := h1.ptrI
    split at he
    · rename_i cs hcs
      split at he
      · rename_i hlen hone
        split at he
        · rename_i cs' hov
          rw [St.putK_eq] at he
          obtain ⟨w', hst, hpo⟩ := store_ok hW hcs hb h2.cells hone hov
          refine ⟨_, _, he, undef, ι, w', undef_ok ι, hpo, .inr ⟨?_, rfl⟩⟩
          have hln := Nat.eq_of_beq_eq_true hlen
          rw [len_eq, h2.cells.length] at hln
          have hsz : (a.eval x).cells.size = n := by simpa using hln
          simp only [execOp, Instr.storeAt, hr, Instr.sureAddr, Sem.run_bind, Sem.run_pure, Result.andThen_ok, storeVar, run_sz hn, hsz, ne_eq, not_true_eq_false, if_false, hst]
        · cases he
      · cases he
    · cases he
  · cases he

theorem evMup_ok {t key elem : TypeId} {n : Nat} {ag : Bool} {m kx vx : Operand} {m' kx' vx' : Opd} {β : Type} {k : Value → St → Option β} {res : β} {dst : Option Tmp} {ty : TypeId} {pos : String} {after : Array Edge} {guard : Option (Nat × Bool)}
    (hu : P.underlying t = some (.map key elem)) (hn : eqT P 6 key = some n) (hag : aggB P key = some ag) (hm : compX m = some m') (hk : compX kx = some kx') (hv : compX vx = some vx') (hT : TR ι T a.tmps) (hW : WR P ι s w) (he : w_mup n ag m' kx' vx' T s k = some res) :
    ∃ v s1, k v s1 = some res ∧ Does P ι s w a ⟨dst, .mapUpdate t m kx vx, ty, pos, after, guard⟩ v s1 := by
  have h1 := compX_ok hm hT
  have h2 := compX_ok hk hT
  have h3 := compX_ok hv hT
  simp only [w_mup] at he
  split at he
  · rename_i b e1
    rw [e1] at h1
    split at he
    · rename_i es hkey hes
      split at he
      · rename_i es' hins
        rw [St.putK_eq] at he
        rcases mapOf_ok hW h1 hes with ⟨h, _⟩ | ⟨b', r, c, en, ck, hb', hm', hb, hget, hheap, her, hps⟩
        · cases h
        · cases hb'
          have hg : (getObj r).run P w = .ok (.map en ck) w := getObj_run hheap (fun _ _ _ h => by cases h)
          have hlt : r < w.heap.size := hW.bound _ _ _ hb
          have hcheck : (Instr.checkKey false 10000 key (a.eval kx)).run P w = .ok () w := by
            obtain ⟨q1, q2, q3⟩ := keyed_holds (P := P) hag hkey h2
            exact key_ok (D := 9994) hn q1 q2
          have hset : ∀ x, (setObj r x).run P w = .ok () { w with heap := w.heap.setIfInBounds r x } := fun x => setObj_run hheap (fun _ _ _ h => by cases h)
          rcases ins_ok hins with ⟨hl, rfl⟩ | ⟨x, y, hl, hat, hs, rfl⟩
          · obtain ⟨r', hf, hr'⟩ := find_ok hn hag hkey h2 w her hps hl
            have hr'' : r' = none := hr'
            subst hr''
            refine ⟨_, _, he, undef, ι, _, undef_ok ι, Po.put hW (by rw [hget]; simp) hb (x := .map (en.push { key := a.eval kx, val := a.eval vx, born := ck }) (ck + 1)) ⟨_, _, rfl, ?_, ?_⟩ (upd_set hlt), .inr ⟨?_, rfl⟩⟩
            · rw [Array.toList_push]
              exact her.append h2 h3
            · intro p hp
              rcases List.mem_append.1 hp with hp | hp
              · exact hps p hp
              · simp only [List.mem_singleton] at hp
                subst hp
                exact hkey
            · simp only [execOp, Instr.mapUpdate, Sem.run_bind, run_und hu, Result.andThen_ok, hm', hg, hcheck, hf, hset, Sem.run_pure]
          · obtain ⟨r', hf, v', e1, e2⟩ := find_ok hn hag hkey h2 w her hps hl
            subst e1
            obtain ⟨en0, hen, hk0, hv0⟩ := her.at_ hat
            have hbits := same_bits hkey (hps (x, y) (List.mem_of_getElem? hat)) h2 hk0 hs
            refine ⟨_, _, he, undef, ι, _, undef_ok ι, Po.put hW (by rw [hget]; simp) hb (x := .map (en.modify (idxL (cellsOf (oev T kx')) es) fun e => { e with key := a.eval kx, val := a.eval vx }) ck) ⟨_, _, rfl, ?_, ?_⟩ (upd_set hlt), .inr ⟨?_, rfl⟩⟩
            · rw [Array.toList_modify]
              exact her.set fun e => ⟨h2, h3⟩
            · intro p hp
              rcases List.mem_or_eq_of_mem_set hp with hp | hp
              · exact hps p hp
              · subst hp; exact hkey
            · have hen' : (en[idxL (cellsOf (oev T kx')) es]?) = some en0 := by
                rw [← Array.getElem?_toList, hen]
              simp only [execOp, Instr.mapUpdate, Sem.run_bind, run_und hu, Result.andThen_ok, hm', hg, hcheck, hf, Instr.keyThatStays, hen', Option.map_some, Option.getD_some, hbits, if_true, Sem.run_pure, hset, Nat.zero_add]
      · cases he
    · cases he
  · cases he
end
end Go.Sim
