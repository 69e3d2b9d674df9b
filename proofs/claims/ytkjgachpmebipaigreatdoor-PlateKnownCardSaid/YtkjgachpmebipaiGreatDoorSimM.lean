import Derived.Test.YtkjgachpmebipaiGreatDoorSimL
/- append. -/
namespace Go.Sim
set_option linter.all false
open Go
variable [Rho] [Asm] [SymOK]

section
variable {P : Program} {ι : Io} {T : Tm} {a : Act} {s : St} {w : World}

theorem first_ok {ad : Option Addr} {n c size : Nat} {v' : Value} {l : List Value} (hW : WR P ι s w) (hv : VR ι (.slice ad n c) v') (hr : rowOf s.h (n * size) ad = some l) :
    ∃ l', LR ι l l' ∧ (Builtin.lenOf v').run P w = .ok n w ∧ (Builtin.firstCells size n v').run P w = .ok l'.toArray w ∧ l'.length = n * size := by
  cases ad with
  | none =>
    simp only [rowOf] at hr
    split at hr
    · rename_i h0
      cases hr
      refine ⟨[], .nil, ?_, ?_, by rw [h0]; rfl⟩
      · cases hv <;> rfl
      · cases hv
        · simp [Builtin.firstCells]; rfl
        · simp [Builtin.firstCells]
    · cases hr
  | some ad =>
    obtain ⟨b, o, sp⟩ := ad
    cases sp with
    | some x => cases hv
    | none =>
      obtain ⟨r, k, k', rfl, hb⟩ := hv.slB
      simp only [rowOf] at hr
      split at hr
      · rename_i cs hcs
        obtain ⟨r', k2, x, h1, h2, cs', ty, rfl, hc, l', tl, h3, h4⟩ := hW.obj _ _ hcs
        rw [hb] at h1
        cases h1
        obtain ⟨q, hq1, hq2, hq3, hq4⟩ := LR.sub (tl := tl) h4 hr
        rw [← h3] at hq3
        exact ⟨q, hq1, rfl, by simp only [Builtin.firstCells]; exact loadCells_ok h2 hq3 hq2, hq2⟩
      · cases hr

theorem cap_le {need c : Nat} (h : c < need) (hn : need ≤ 65536) : Builtin.nextslicecap need c ≤ 1048576 := by
  unfold Builtin.nextslicecap
  split
  · omega
  · split
    · omega
    · simp only [Builtin.growBy]
      repeat' split
      all_goals omega

theorem zeroCells_size (z : Array Value) (n : Nat) : (Builtin.zeroCells z n).size = n * z.size := by simp [Builtin.zeroCells]

/-- There is room: the cells are stored. -/
theorem app_in {sT xT e e2 : TypeId} {ty : TypeId} {X : Value} {size n m : Nat} {b : Addr} {k : Nat} {new : List Value} {w' : World}
    (hs : P.underlying sT = some (.slice e)) (hx : P.underlying xT = some (.slice e2)) (hsz : szOf P e = some size)
    (hlen : (Builtin.lenOf X).run P w = .ok m w) (hnew : (Builtin.firstCells size m X).run P w = .ok new.toArray w) (hk : n + m ≤ k) (hst : (storeCells (b.add (n * size)) new).run P w = .ok () w') {r1 : Array TypeId} {r2 : Array Value} (h1 : r1[0]? = some sT) (h2 : r1[1]? = some xT) (h3 : r2[0]? = some (.slice (some b) n k)) (h4 : r2[1]? = some X) :
    (Builtin.append_ r1 ty r2).run P w = .ok (.slice (some b) (n + m) k) w' := by
  simp only [Builtin.append_, h1, h2, h3, h4, Sem.run_bind, run_und hs, run_und hx, run_sz hsz, Result.andThen_ok, Sem.run_pure, hlen, if_pos hk, Bool.false_eq_true, if_false, Bool.not_false, if_true, hnew, hst]
theorem app_nil {sT xT e e2 : TypeId} {ty : TypeId} {X : Value} {size n m : Nat} {k : Nat} {new : List Value}
    (hs : P.underlying sT = some (.slice e)) (hx : P.underlying xT = some (.slice e2)) (hsz : szOf P e = some size)
    (hlen : (Builtin.lenOf X).run P w = .ok m w) (hnew : (Builtin.firstCells size m X).run P w = .ok new.toArray w) (hk : n + m ≤ k) {r1 : Array TypeId} {r2 : Array Value} (h1 : r1[0]? = some sT) (h2 : r1[1]? = some xT) (h3 : r2[0]? = some (.slice none n k)) (h4 : r2[1]? = some X) :
    (Builtin.append_ r1 ty r2).run P w = .ok (.slice none (n + m) k) w := by
  simp only [Builtin.append_, h1, h2, h3, h4, Sem.run_bind, run_und hs, run_und hx, run_sz hsz, Result.andThen_ok, Sem.run_pure, hlen, if_pos hk, Bool.false_eq_true, if_false, Bool.not_false, if_true, hnew]
/-- There is none: a new row. -/
theorem app_grow {sT xT e e2 : TypeId} {ty : TypeId} {S X : Value} {base : Option Addr} {size n m k : Nat} {old new : List Value} {z : Value} {i : TypeInfo} {t : Nat}
    (hs : P.underlying sT = some (.slice e)) (hx : P.underlying xT = some (.slice e2)) (hsz : szOf P e = some size) (hi : P.info? e = some i) (hby : i.bytes ≤ 65536) (hS : S = .slice base n k)
    (hlen : (Builtin.lenOf X).run P w = .ok m w) (hlim : n + m ≤ 65536) (hk : ¬ n + m ≤ k) (ht : t = (Question.appendCap (n + m) k e).cut (w.tape w.drawn (.appendCap (n + m) k e)))
    (hold : (Builtin.firstCells size n S).run P { w with drawn := w.drawn + 1 } = .ok old.toArray { w with drawn := w.drawn + 1 }) (hnew : (Builtin.firstCells size m X).run P { w with drawn := w.drawn + 1 } = .ok new.toArray { w with drawn := w.drawn + 1 })
    (hz : ∀ w, (zeroValue e).run P w = .ok z w) {r1 : Array TypeId} {r2 : Array Value} (h1 : r1[0]? = some sT) (h2 : r1[1]? = some xT) (h3 : r2[0]? = some S) (h4 : r2[1]? = some X) :
    (Builtin.append_ r1 ty r2).run P w = .ok (.slice (some ⟨w.heap.size, 0, none⟩) (n + m) t) { w with drawn := w.drawn + 1, heap := w.heap.push (.cells (old.toArray ++ new.toArray ++ Builtin.zeroCells z.cells (t - (n + m))) e) } := by
  subst hS
  have hc := cap_le (need := n + m) (c := k) (by omega) hlim
  have hmul : ¬ Builtin.nextslicecap (n + m) k * i.bytes > 2 ^ 48 := by
    have : Builtin.nextslicecap (n + m) k * i.bytes ≤ 1048576 * 65536 := Nat.mul_le_mul hc hby
    omega
  have hbig : ¬ (((n + m : Nat) : Int) > IntKind.i64.max) := by
    have : IntKind.i64.max = 9223372036854775807 := rfl
    omega
  simp only [Builtin.append_, h1, h2, h3, h4, Sem.run_bind, run_und hs, run_und hx, run_sz hsz, run_info hi, Result.andThen_ok, Sem.run_pure, hlen, if_neg hk, Bool.false_eq_true, if_false, Bool.not_false, if_true, hbig, hmul, false_and, run_choose, Question.forced, run_askRoom, ← ht, hold, hnew, hz, newRow, run_newObj]

theorem sub_all : ∀ l : List Value, sub l 0 l.length = some l
  | [] => rfl
  | v :: l => by simp only [List.length_cons, Sim.sub, sub_all l]
theorem zero_cells {z : List Value} {v : Value} (h : cellsOf v = z) : v.cells.size = z.length := by
  subst h
  cases v <;> rfl

theorem evApp_ok {o : Oper} {c : Call} {sT xT e e2 : TypeId} {size bytes : Nat} {z : List Value} {sx xx : Operand} {sx' xx' : Opd} {β : Type} {k : Value → St → Option β} {res : β} {dst : Option Tmp} {ty : TypeId} {pos : String} {after : Array Edge} {guard : Option (Nat × Bool)}
    (ho : o = ⟨dst, .call c, ty, pos, after, guard⟩) (hc : c.callee = .builtin .append) (h1 : c.argTypes[0]? = some sT) (h2 : c.argTypes[1]? = some xT) (h3 : c.args[0]? = some sx) (h4 : c.args[1]? = some xx)
    (hs : P.underlying sT = some (.slice e)) (hx : P.underlying xT = some (.slice e2)) (hsz : szOf P e = some size) (hz : zeroOf P e = some z) (hby : (P.info? e).map (·.bytes) = some bytes) (hzl : z.length = size) (hs0 : size ≠ 0) (hb1 : bytes ≤ 65536) (hb2 : size ≤ 65536)
    (hsx : compX sx = some sx') (hxx : compX xx = some xx') (hT : TR ι T a.tmps) (hW : WR P ι s w) (he : w_app size sx' xx' T s k = some res) :
    ∃ v s1, k v s1 = some res ∧ Does P ι s w a o v s1 := by
  subst ho
  have g1 := compX_ok hsx hT
  have g2 := compX_ok hxx hT
  have a1 : (c.args.map a.eval)[0]? = some (a.eval sx) := by simp [h3]
  have a2 : (c.args.map a.eval)[1]? = some (a.eval xx) := by simp [h4]
  obtain ⟨zv, hzr, hzc, hzv, _⟩ := zeroOf_ok hz
  have hzs : zv.cells.size = size := by rw [zero_cells hzc, hzl]
  have hrun : ∀ (v : Value) (w' : World), (Builtin.append_ c.argTypes ty (c.args.map a.eval)).run P w = .ok v w' → (execOp a.eval ⟨dst, .call c, ty, pos, after, guard⟩).run P w = .ok (.value v) w' := fun v w' h => by
    obtain ⟨callee, args, argTypes⟩ := c
    simp only at hc
    subst hc
    simp only [execOp, resolve, invoke, Sem.run_bind, Sem.run_pure, Result.andThen_ok, builtin, h]
  have grow : ∀ {ad ad' : Option Addr} {n m cp cp' : Nat} {old new : List Value} (base : Option Addr) (cpr : Nat), VR ι (.slice ad n cp) (a.eval sx) → VR ι (.slice ad' m cp') (a.eval xx) → a.eval sx = .slice base n cpr → ¬ n + m ≤ cpr → n + m ≤ 65536 →
      rowOf s.h (n * size) ad = some old → rowOf s.h (m * size) ad' = some new →
      ∃ t x, (Builtin.append_ c.argTypes ty (c.args.map a.eval)).run P w = .ok (.slice (some ⟨w.heap.size, 0, none⟩) (n + m) t) { w with drawn := w.drawn + 1, heap := w.heap.push x } ∧ n + m ≤ t ∧ ∀ ι', Ext ι ι' → OR P ι' (t * size) (.cells (app old new)) x := by
    intro ad ad' n m cp cp' old new base cpr g1 g2 hr hk hlim hold hnew
    have hW1 : WR P ι s { w with drawn := w.drawn + 1 } := (Po.draw hW _).wr
    obtain ⟨new', hn1, hn2, _, hn4⟩ := first_ok (P := P) hW g2 hnew
    obtain ⟨new2, hn1', _, hn3, hn4'⟩ := first_ok (P := P) hW1 g2 hnew
    obtain ⟨old', ho1, _, ho3, ho4⟩ := first_ok (P := P) hW1 g1 hold
    cases hi : P.info? e with
    | none => rw [hi] at hby; cases hby
    | some i =>
      rw [hi] at hby
      cases hby
      refine ⟨_, _, app_grow hs hx hsz hi hb1 hr hn2 hlim hk rfl ho3 hn3 hzr h1 h2 a1 a2, ?_, ?_⟩
      · simp only [Question.cut]; omega
      · intro ι' hext
        refine ⟨_, e, rfl, ?_, old' ++ new2, (Builtin.zeroCells zv.cells _).toList, by rw [Array.toList_append, Array.toList_append], by rw [app_eq]; exact (ho1.append hn1').mono hext⟩
        simp only [Array.size_append, List.size_toArray, zeroCells_size, hzs, ho4, hn4', Question.cut]
        rw [← Nat.add_mul, ← Nat.add_mul]
        congr 1
        omega
  simp only [w_app] at he
  split at he
  · rename_i ad n cp ad' m cp' e1 e2'
    rw [e1] at g1
    rw [e2'] at g2
    split at he
    · cases he
    · rename_i new hnew
      obtain ⟨new', hn1, hn2, hn3, hn4⟩ := first_ok (P := P) hW g2 hnew
      split at he
      · rename_i hone hble hlt
        have hlim : n + m ≤ 65536 := Nat.le_of_ble_eq_true hble
        have hltn := blt_true hlt
        split at he
        · rename_i hcp
          have hcp' : cp < 2 ^ 64 := by simpa [Nat.blt_eq] using hcp
          split at he
          · rename_i hfit
            have hfit' : n + m ≤ cp := Nat.le_of_ble_eq_true hfit
            split at he
            · rename_i b o
              obtain ⟨r, kk, hr, hb⟩ := g1.slI hcp'
              split at he
              · rename_i cs hcs
                split at he
                · rename_i cs' hov
                  rw [St.putK_eq] at he
                  obtain ⟨w', hst, hpo⟩ := store_ok hW hcs hb hn1 hone hov
                  refine ⟨_, _, he, _, ι, w', .sl hb hcp', hpo, .inl (hrun _ _ ?_)⟩
                  refine app_in hs hx hsz hn2 hn3 hfit' ?_ h1 h2 (by rw [a1, hr]) a2
                  have : (⟨r, o, none⟩ : Addr).add (n * size) = ⟨r, o + n * size, none⟩ := by unfold Addr.add; split <;> simp_all
                  rw [this]
                  exact hst
                · cases he
              · cases he
            · split at he
              · rename_i h0
                have hr := g1.sl0I hcp'
                refine ⟨_, _, he, _, ι, w, .sl0 _ _ hcp', Po.refl hW, .inl (hrun _ _ ?_)⟩
                exact app_nil (n := n) (m := 0) hs hx hsz hn2 hn3 hfit' h1 h2 (by rw [a1, hr]) a2
              · cases he
            · cases he
          · rename_i hfit
            have hfit' : ¬ n + m ≤ cp := fun h => by have := Nat.ble_eq_true_of_le h; rw [show Nat.ble (n + m) cp = Nat.ble (Nat.add n m) cp from rfl, hfit] at this; cases this
            split at he
            · cases he
            · rename_i old hold
              rw [St.newK_eq] at he
              have hr : ∃ base cpr, a.eval sx = .slice base n cpr ∧ ¬ n + m ≤ cpr := by
                cases ad with
                | none => exact ⟨none, cp, g1.sl0I hcp', hfit'⟩
                | some ad =>
                  obtain ⟨b, o, sp⟩ := ad
                  cases sp with
                  | some _ => cases g1
                  | none => obtain ⟨r, kk, hr, hb⟩ := g1.slI hcp'; exact ⟨_, cp, hr, hfit'⟩
              obtain ⟨base, cpr, hr, hk⟩ := hr
              obtain ⟨t, x, hap, hle, hor⟩ := grow base cpr g1 g2 hr hk hlim hold hnew
              obtain ⟨ι', hι', hpo⟩ := Po.new (Po.draw hW (w.drawn + 1)).wr (o := .cells (app old new)) hltn hor
              exact ⟨_, _, he, _, ι', _, .slU hι' hle (by omega) (by omega) (by omega), (Po.draw hW _).trans hpo, .inl (hrun _ _ hap)⟩
        · rename_i hcp
          split at he
          · rename_i b
            split at he
            · rename_i cs hcs
              split at he
              · rename_i hl1 hl2
                rw [St.putK_eq, St.newK_eq] at he
                have hcp2 : cp = 2 ^ 64 + size := Nat.eq_of_beq_eq_true hl2
                subst hcp2
                obtain ⟨r, kc, kk, hr, hb, hnk, hcap, hsz1, hsz2⟩ := g1.slUI
                have hcl : cs.length = n * size := by have := Nat.eq_of_beq_eq_true hl1; rw [len_eq] at this; exact this
                obtain ⟨r', k2, x, q1, q2, cs', ty', rfl, q3, l', tl, q4, q5⟩ := hW.obj _ _ hcs
                rw [hb] at q1
                cases q1
                by_cases hroom : n + m ≤ kk
                · have hl' : l'.length = n * size := by rw [← q5.length, hcl]
                  have hsz' : cs'.size = kk * size := by rw [q3]; omega
                  have hle : (n + m) * size ≤ kk * size := Nat.mul_le_mul_right size hroom
                  rw [Nat.add_mul] at hle
                  have hst := run_storeCells_at P r (n * size) ty' new' 0 cs' w q2 (by rw [hn4]; omega) (fun v hv => (List.all_eq_true.1 (hn1.ones hone)) v hv)
                  have hrow : cs'.toList.take (n * size + 0) ++ new' ++ cs'.toList.drop (n * size + 0 + new'.length) = (l' ++ new') ++ tl.drop new'.length := by
                    rw [Nat.add_zero, q4, List.take_append_of_le_length (by omega), List.take_of_length_le (by omega), List.drop_append]
                    rw [List.drop_of_length_le (by omega), hl']
                    have e0 : n * size + new'.length - n * size = new'.length := by omega
                    rw [e0, List.nil_append]
                  rw [hrow] at hst
                  have hsize : ((l' ++ new') ++ tl.drop new'.length).toArray.size = kc := by
                    have e1 : cs'.size = l'.length + tl.length := by rw [← Array.length_toList, q4, List.length_append]
                    rw [hsz', hl'] at e1
                    simp only [List.size_toArray, List.length_append, List.length_drop, hn4, hl']
                    rw [← hcap]
                    omega
                  obtain ⟨ι', hι', hpo⟩ := Po.move hW (b := b) (o := .cells (app cs new)) (x := .cells ((l' ++ new') ++ tl.drop new'.length).toArray ty') (w' := w.setRow r ((l' ++ new') ++ tl.drop new'.length).toArray) (by rw [hcs]; simp) hb hltn
                    (fun ι' he => ⟨_, _, rfl, hsize, l' ++ new', tl.drop new'.length, by simp, by rw [app_eq]; exact (q5.append hn1).mono he⟩)
                    ⟨setRow_heap w r cs' _ ty' _ q2, fun j hj => setRow_other w r j _ hj, by simp, rfl, rfl, rfl⟩
                  refine ⟨_, _, he, _, ι', _, .slU hι' hroom (by omega) hsz1 hsz2, hpo, .inl (hrun _ _ ?_)⟩
                  refine app_in hs hx hsz hn2 hn3 hroom ?_ h1 h2 (by rw [a1, hr]) a2
                  have : (⟨r, 0, none⟩ : Addr).add (n * size) = ⟨r, n * size, none⟩ := by unfold Addr.add; split <;> simp_all
                  rw [this]
                  exact hst
                · have hold : rowOf s.h (n * size) (some ⟨b, 0, none⟩) = some cs := by
                    simp only [rowOf, hcs]
                    rw [← hcl]
                    exact sub_all cs
                  obtain ⟨t, x, hap, hle, hor⟩ := grow _ kk g1 g2 hr hroom hlim hold hnew
                  have hk1 := Po.kill hW (b := b) (by rw [hcs]; simp) hb
                  obtain ⟨ι', hι', hpo⟩ := Po.new (Po.draw hk1.wr (w.drawn + 1)).wr (o := .cells (app cs new)) hltn hor
                  exact ⟨_, _, he, _, ι', _, .slU hι' hle (by omega) hsz1 hsz2, (hk1.trans (Po.draw hk1.wr _)).trans hpo, .inl (hrun _ _ hap)⟩
              · cases he
            · cases he
          · cases he
      · cases he
  · cases he

/-! ### copy, clear, delete, and the steps over a text -/
theorem first_ok2 {ad : Option Addr} {n j c size : Nat} {v' : Value} {l : List Value} (hW : WR P ι s w) (hv : VR ι (.slice ad n c) v') (hr : rowOf s.h (j * size) ad = some l) :
    ∃ l', LR ι l l' ∧ (Builtin.lenOf v').run P w = .ok n w ∧ (Builtin.firstCells size j v').run P w = .ok l'.toArray w ∧ l'.length = j * size := by
  cases ad with
  | none =>
    simp only [rowOf] at hr
    split at hr
    · rename_i h0
      cases hr
      refine ⟨[], .nil, ?_, ?_, by rw [h0]; rfl⟩
      · cases hv <;> rfl
      · cases hv
        · simp only [Builtin.firstCells, h0]; simp [loadCells]; rfl
        · simp [Builtin.firstCells]
    · cases hr
  | some ad =>
    obtain ⟨b, o, sp⟩ := ad
    cases sp with
    | some x => cases hv
    | none =>
      obtain ⟨r, k, k', rfl, hb⟩ := hv.slB
      simp only [rowOf] at hr
      split at hr
      · rename_i cs hcs
        obtain ⟨r', k2, x, h1, h2, cs', ty, rfl, hc, l', tl, h3, h4⟩ := hW.obj _ _ hcs
        rw [hb] at h1
        cases h1
        obtain ⟨q, hq1, hq2, hq3, hq4⟩ := LR.sub (tl := tl) h4 hr
        rw [← h3] at hq3
        exact ⟨q, hq1, rfl, by simp only [Builtin.firstCells]; exact loadCells_ok h2 hq3 hq2, hq2⟩
      · cases hr

theorem exec_bi {b : Builtin} {v : Value} {w' : World} {args : Array Operand} {argTypes : Array TypeId} {f : Sem Value} {dst : Option Tmp} {ty : TypeId} {pos : String} {after : Array Edge} {guard : Option (Nat × Bool)}
    (hb : ∀ cs, builtin b argTypes ty cs (args.map a.eval) = (do pure (.value (← f)) : Sem Next)) (h : f.run P w = .ok v w') :
    (execOp a.eval ⟨dst, .call ⟨.builtin b, args, argTypes⟩, ty, pos, after, guard⟩).run P w = .ok (.value v) w' := by
  have hh : ∀ cs, (builtin b argTypes ty cs (args.map a.eval)).run P w = .ok (.value v) w' := fun cs => by
    rw [hb cs]
    simp only [Sem.run_bind, h, Result.andThen_ok, Sem.run_pure]
  simp only [execOp, resolve, invoke, Sem.run_bind, Sem.run_pure, Result.andThen_ok]
  exact hh _

theorem evCpy_ok {args : Array Operand} {argTypes : Array TypeId} {sT e : TypeId} {size : Nat} {sx xx : Operand} {sx' xx' : Opd} {β : Type} {k : Value → St → Option β} {res : β} {dst : Option Tmp} {ty : TypeId} {pos : String} {after : Array Edge} {guard : Option (Nat × Bool)}
    (h1 : argTypes[0]? = some sT) (h3 : args[0]? = some sx) (h4 : args[1]? = some xx) (hs : P.underlying sT = some (.slice e)) (hsz : szOf P e = some size)
    (hsx : compX sx = some sx') (hxx : compX xx = some xx') (hT : TR ι T a.tmps) (hW : WR P ι s w) (he : w_cpy size sx' xx' T s k = some res) :
    ∃ v s1, k v s1 = some res ∧ Does P ι s w a ⟨dst, .call ⟨.builtin .copy, args, argTypes⟩, ty, pos, after, guard⟩ v s1 := by
  have g1 := compX_ok hsx hT
  have g2 := compX_ok hxx hT
  have a1 : (args.map a.eval)[0]? = some (a.eval sx) := by simp [h3]
  have a2 : (args.map a.eval)[1]? = some (a.eval xx) := by simp [h4]
  simp only [w_cpy] at he
  split at he
  · rename_i ad n c ad' m c' e1 e2
    rw [e1] at g1
    rw [e2] at g2
    split at he
    · cases he
    · rename_i new hnew
      obtain ⟨new', hn1, hn2, hn3, hn4⟩ := first_ok2 (P := P) hW g2 hnew
      have hmin : Nat.min m n = minN m n := by rw [minN_eq]
      split at he
      · rename_i b o
        obtain ⟨r, kc, k', hv, hb⟩ := g1.slB
        split at he
        · rename_i cs hcs
          split at he
          · rename_i cs' hone hov
            rw [St.putK_eq] at he
            obtain ⟨w', hst, hpo⟩ := store_ok hW hcs hb hn1 hone hov
            refine ⟨_, _, he, _, ι, w', .int _ _, hpo, .inl (exec_bi (f := Builtin.copy_ argTypes ty (args.map a.eval)) (fun cs => rfl) ?_)⟩
            · simp only [Builtin.copy_, h1, a1, a2, Sem.run_bind, run_und hs, Result.andThen_ok, hv, hn2, hmin, run_sz hsz, hn3, hst, Sem.run_pure]
              rfl
          · cases he
        · cases he
      · split at he
        · rename_i hc
          have hv := g1.sl0I (blt_true hc)
          refine ⟨_, _, he, _, ι, w, .int _ _, Po.refl hW, .inl (exec_bi (f := Builtin.copy_ argTypes ty (args.map a.eval)) (fun cs => rfl) ?_)⟩
          · simp only [Builtin.copy_, h1, a1, a2, Sem.run_bind, run_und hs, Result.andThen_ok, hv, hn2, hmin, run_sz hsz, hn3, Sem.run_pure]
            rfl
        · cases he
      · cases he
  · cases he

theorem ones_app : ∀ {l m : List Value}, Sim.ones l = true → Sim.ones m = true → Sim.ones (l ++ m) = true
  | [], _, _, h => h
  | v :: l, m, h1, h2 => by
    simp only [Sim.ones] at h1
    split at h1
    · rename_i hv
      simp only [List.cons_append, Sim.ones, hv]
      exact ones_app h1 h2
    · cases h1
theorem ones_rep {z : List Value} (h : Sim.ones z = true) : ∀ n, Sim.ones (rep n z) = true
  | 0 => rfl
  | n + 1 => by
    simp only [rep, app_eq]
    exact ones_app h (ones_rep h n)
theorem evClr_ok {args : Array Operand} {argTypes : Array TypeId} {sT e : TypeId} {z : List Value} {sx : Operand} {sx' : Opd} {β : Type} {k : Value → St → Option β} {res : β} {dst : Option Tmp} {ty : TypeId} {pos : String} {after : Array Edge} {guard : Option (Nat × Bool)}
    (h1 : argTypes[0]? = some sT) (h3 : args[0]? = some sx) (hs : P.underlying sT = some (.slice e)) (hz : zeroOf P e = some z)
    (hsx : compX sx = some sx') (hT : TR ι T a.tmps) (hW : WR P ι s w) (he : w_clr z sx' T s k = some res) :
    ∃ v s1, k v s1 = some res ∧ Does P ι s w a ⟨dst, .call ⟨.builtin .clear, args, argTypes⟩, ty, pos, after, guard⟩ v s1 := by
  have g1 := compX_ok hsx hT
  have a1 : (args.map a.eval)[0]? = some (a.eval sx) := by simp [h3]
  obtain ⟨zv, hzr, hzc, hzv, _⟩ := zeroOf_ok hz
  simp only [w_clr] at he
  split at he
  · rename_i ad n c e1
    rw [e1] at g1
    split at he
    · obtain ⟨y, k', hv⟩ := g1.slN
      refine ⟨_, _, he, _, ι, w, undef_ok ι, Po.refl hW, .inl (exec_bi (f := Builtin.clear_ argTypes ty (args.map a.eval)) (fun cs => rfl) ?_)⟩
      · cases y <;> simp only [Builtin.clear_, h1, a1, Sem.run_bind, run_und hs, Result.andThen_ok, hv, Sem.run_pure] <;> rfl
    · rename_i n
      split at he
      · rename_i b o
        obtain ⟨r, kc, k', hv, hb⟩ := g1.slB
        split at he
        · rename_i cs hcs
          split at he
          · rename_i cs' hone hov
            rw [St.putK_eq] at he
            have hzl : LR ι z zv.cells.toList := by
              have := (hzv ι).cells
              rw [hzc] at this
              exact this
            have hrow : LR ι (rep (n + 1) z) (Builtin.zeroCells zv.cells (n + 1)).toList := by
              have := range_rep zv.cells (n + 1)
              unfold Builtin.zeroCells
              rw [this]
              exact rep_ok hzl (n + 1)
            have hone' : Sim.ones (rep (n + 1) z) = true := ones_rep hone (n + 1)
            obtain ⟨w', hst, hpo⟩ := store_ok hW hcs hb hrow hone' hov
            refine ⟨_, _, he, _, ι, w', undef_ok ι, hpo, .inl (exec_bi (f := Builtin.clear_ argTypes ty (args.map a.eval)) (fun cs => rfl) ?_)⟩
            · simp only [Builtin.clear_, h1, a1, Sem.run_bind, run_und hs, Result.andThen_ok, hv, hzr, hst, Sem.run_pure]
              rfl
          · cases he
        · cases he
      · cases he
  · cases he

theorem evNxt_ok {x : Operand} {x' : Opd} {β : Type} {k : Value → St → Option β} {res : β} {dst : Option Tmp} {ty : TypeId} {pos : String} {after : Array Edge} {guard : Option (Nat × Bool)}
    (hx : compX x = some x') (hT : TR ι T a.tmps) (hW : WR P ι s w) (he : w_nxt x' T s k = some res) :
    ∃ v s1, k v s1 = some res ∧ Does P ι s w a ⟨dst, .next x true, ty, pos, after, guard⟩ v s1 := by
  have g1 := compX_ok hx hT
  simp only [w_nxt] at he
  split at he
  · rename_i b e1
    rw [e1] at g1
    obtain ⟨r, c, hv, hb⟩ := g1.ptrI
    split at he
    · rename_i l pos hl
      obtain ⟨r', c', o', q1, q2, q3⟩ := hW.obj _ _ hl
      rw [hb] at q1
      cases q1
      have q3' : o' = .stringIter ⟨⟨l⟩⟩ pos := q3
      subst q3'
      have hg : (getObj r).run P w = .ok (.stringIter ⟨⟨l⟩⟩ pos) w := getObj_run q2 (fun _ _ _ h => by cases h)
      have hset : ∀ x, (setObj r x).run P w = .ok () { w with heap := w.heap.setIfInBounds r x } := fun x => setObj_run q2 (fun _ _ _ h => by cases h)
      have hsz : (⟨⟨l⟩⟩ : ByteArray).size = l.length := rfl
      split at he
      · rename_i hn
        rw [nthU_eq] at hn
        have hle : ¬ pos < l.length := by
          have := List.getElem?_eq_none_iff.1 hn
          omega
        refine ⟨_, _, he, _, ι, w, .tup (.cons (.bool _) .nil), Po.refl hW, .inl ?_⟩
        simp only [execOp, Instr.next, hv, Sem.run_bind, Sem.run_pure, Result.andThen_ok, hg, hsz, if_neg hle]
      · rename_i ch hn
        rw [nthU_eq] at hn
        obtain ⟨hlt, hch⟩ := List.getElem?_eq_some_iff.1 hn
        split at he
        · rename_i h128
          rw [St.putK_eq] at he
          have h128' := blt_true h128
          have hdec : Utf8.decode ⟨⟨l⟩⟩ pos = (ch.toNat, 1) := by
            have hget : (⟨⟨l⟩⟩ : ByteArray).get! (pos + 0) = ch := by
              show ((⟨l⟩ : Array UInt8)[pos + 0]!) = ch
              simp [hlt, hch]
            unfold Utf8.decode
            simp only [hget]
            rw [if_pos h128']
          refine ⟨_, _, he, _, ι, _, .tup (.cons (.bool _) (.cons (.int _ _) (.cons (.int _ _) .nil))), Po.put hW (by rw [hl]; simp) hb (x := .stringIter ⟨⟨l⟩⟩ (pos + 1)) rfl (upd_set (hW.bound _ _ _ hb)), .inl ?_⟩
          simp only [execOp, Instr.next, hv, Sem.run_bind, Sem.run_pure, Result.andThen_ok, hg, hsz, if_pos hlt, hdec, hset]
          rfl
        · cases he
    · cases he
  · cases he
end
end Go.Sim
