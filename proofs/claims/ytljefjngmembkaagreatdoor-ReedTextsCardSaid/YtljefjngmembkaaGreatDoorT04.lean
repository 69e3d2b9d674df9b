/- Part 4 of the proof: SimM, SimN, SimO. -/
import Derived.Scope
import Derived.Test.YtljefjngmembkaaGreatDoorT03
namespace Go.Sim
set_option linter.all false
open Go
variable [Rho] [Asm] [SymOK]

section
variable {P : Program} {ι : Io} {T : Tm} {a : Act} {s : St} {w : World}

theorem first_ok {ad : Option Addr} {n c size : Nat} {v' : Value} {l : List Value} (hW : WR P ι s w) (hv : VR ι (.slice ad n c) v') (hr : rowOf s.h (n * size) ad = some l) :
    ∃ l',LR ι l l' ∧ (Builtin.lenOf v').run P w = .ok n w ∧ (Builtin.firstCells size n v').run P w = .ok l'.toArray w ∧ l'.length = n * size := by
  cases ad with
  | none =>
    simp only [rowOf] at hr
    split at hr
    · rename_i h0
      cases hr
      refine ⟨[],.nil,?_,?_,by rw [h0]; rfl⟩
      · cases hv <;> rfl
      · cases hv
        · simp [Builtin.firstCells]; rfl
        · simp [Builtin.firstCells]
    · cases hr
  | some ad =>
    obtain ⟨b,o,sp⟩ := ad
    cases sp with
    | some x => cases hv
    | none =>
      obtain ⟨r,k,k',rfl,hb⟩ := hv.slB
      simp only [rowOf] at hr
      split at hr
      · rename_i cs hcs
        obtain ⟨r',k2,x,h1,h2,cs',ty,rfl,hc,l',tl,h3,h4⟩ := hW.obj _ _ hcs
        rw [hb] at h1
        cases h1
        obtain ⟨q,hq1,hq2,hq3,hq4⟩ := LR.sub (tl := tl) h4 hr
        rw [← h3] at hq3
        exact ⟨q,hq1,rfl,by simp only [Builtin.firstCells]; exact loadCells_ok h2 hq3 hq2,hq2⟩
      · cases hr

theorem cap_le {need c : Nat} (h : c < need) (hn : need ≤ 65536) : Builtin.nextslicecap need c ≤ 1048576 := by
  unfold Builtin.nextslicecap
  split
  · omega
  · split
    · omega
    · simp only [Builtin.growBy]
      repeat' split
      all_goals omega

theorem zeroCells_size (z : Array Value) (n : Nat) : (Builtin.zeroCells z n).size = n * z.size := by simp [Builtin.zeroCells]

theorem app_in {sT xT e e2 : TypeId} {ty : TypeId} {X : Value} {size n m : Nat} {b : Addr} {k : Nat} {new : List Value} {w' : World}
    (hs : P.underlying sT = some (.slice e)) (hx : P.underlying xT = some (.slice e2)) (hsz : szOf P e = some size)
    (hlen : (Builtin.lenOf X).run P w = .ok m w) (hnew : (Builtin.firstCells size m X).run P w = .ok new.toArray w) (hk : n + m ≤ k) (hst : (storeCells (b.add (n * size)) new).run P w = .ok () w') {r1 : Array TypeId} {r2 : Array Value} (h1 : r1[0]? = some sT) (h2 : r1[1]? = some xT) (h3 : r2[0]? = some (.slice (some b) n k)) (h4 : r2[1]? = some X) :
    (Builtin.append_ r1 ty r2).run P w = .ok (.slice (some b) (n + m) k) w' := by
  simp only [Builtin.append_,h1,h2,h3,h4,Sem.run_bind,run_und hs,run_und hx,run_sz hsz,Result.andThen_ok,Sem.run_pure,hlen,if_pos hk,Bool.false_eq_true,if_false,Bool.not_false,if_true,hnew,hst]
theorem app_nil {sT xT e e2 : TypeId} {ty : TypeId} {X : Value} {size n m : Nat} {k : Nat} {new : List Value}
    (hs : P.underlying sT = some (.slice e)) (hx : P.underlying xT = some (.slice e2)) (hsz : szOf P e = some size)
    (hlen : (Builtin.lenOf X).run P w = .ok m w) (hnew : (Builtin.firstCells size m X).run P w = .ok new.toArray w) (hk : n + m ≤ k) {r1 : Array TypeId} {r2 : Array Value} (h1 : r1[0]? = some sT) (h2 : r1[1]? = some xT) (h3 : r2[0]? = some (.slice none n k)) (h4 : r2[1]? = some X) :
    (Builtin.append_ r1 ty r2).run P w = .ok (.slice none (n + m) k) w := by
  simp only [Builtin.append_,h1,h2,h3,h4,Sem.run_bind,run_und hs,run_und hx,run_sz hsz,Result.andThen_ok,Sem.run_pure,hlen,if_pos hk,Bool.false_eq_true,if_false,Bool.not_false,if_true,hnew]
theorem app_grow {sT xT e e2 : TypeId} {ty : TypeId} {S X : Value} {base : Option Addr} {size n m k : Nat} {old new : List Value} {z : Value} {i : TypeInfo} {t : Nat}
    (hs : P.underlying sT = some (.slice e)) (hx : P.underlying xT = some (.slice e2)) (hsz : szOf P e = some size) (hi : P.info? e = some i) (hby : i.bytes ≤ 65536) (hS : S = .slice base n k)
    (hlen : (Builtin.lenOf X).run P w = .ok m w) (hlim : n + m ≤ 65536) (hk : ¬ n + m ≤ k) (ht : t = (Question.appendCap (n + m) k e).cut (w.tape w.drawn (.appendCap (n + m) k e)))
    (hold : (Builtin.firstCells size n S).run P { w with drawn := w.drawn + 1 } = .ok old.toArray { w with drawn := w.drawn + 1 }) (hnew : (Builtin.firstCells size m X).run P { w with drawn := w.drawn + 1 } = .ok new.toArray { w with drawn := w.drawn + 1 })
    (hz : ∀ w,(zeroValue e).run P w = .ok z w) {r1 : Array TypeId} {r2 : Array Value} (h1 : r1[0]? = some sT) (h2 : r1[1]? = some xT) (h3 : r2[0]? = some S) (h4 : r2[1]? = some X) :
    (Builtin.append_ r1 ty r2).run P w = .ok (.slice (some ⟨w.heap.size,0,none⟩) (n + m) t) { w with drawn := w.drawn + 1,heap := w.heap.push (.cells (old.toArray ++ new.toArray ++ Builtin.zeroCells z.cells (t - (n + m))) e) } := by
  subst hS
  have hc := cap_le (need := n + m) (c := k) (by omega) hlim
  have hmul : ¬ Builtin.nextslicecap (n + m) k * i.bytes > 2 ^ 48 := by
    have : Builtin.nextslicecap (n + m) k * i.bytes ≤ 1048576 * 65536 := Nat.mul_le_mul hc hby
    omega
  have hbig : ¬ (((n + m : Nat) : Int) > IntKind.i64.max) := by
    have : IntKind.i64.max = 9223372036854775807 := rfl
    omega
  simp only [Builtin.append_,h1,h2,h3,h4,Sem.run_bind,run_und hs,run_und hx,run_sz hsz,run_info hi,Result.andThen_ok,Sem.run_pure,hlen,if_neg hk,Bool.false_eq_true,if_false,Bool.not_false,if_true,hbig,hmul,false_and,run_choose,Question.forced,run_askRoom,← ht,hold,hnew,hz,newRow,run_newObj]

theorem sub_all : ∀ l : List Value,sub l 0 l.length = some l
  | [] => rfl
  | v :: l => by simp only [List.length_cons,Sim.sub,sub_all l]
theorem zero_cells {z : List Value} {v : Value} (h : cellsOf v = z) : v.cells.size = z.length := by
  subst h
  cases v <;> rfl

theorem evApp_ok {o : Oper} {c : Call} {sT xT e e2 : TypeId} {size bytes : Nat} {z : List Value} {sx xx : Operand} {sx' xx' : Opd} {β : Type} {k : Value → St → Option β} {res : β} {dst : Option Tmp} {ty : TypeId} {pos : String} {after : Array Edge} {guard : Option (Nat × Bool)}
    (ho : o = ⟨dst,.call c,ty,pos,after,guard⟩) (hc : c.callee = .builtin .append) (h1 : c.argTypes[0]? = some sT) (h2 : c.argTypes[1]? = some xT) (h3 : c.args[0]? = some sx) (h4 : c.args[1]? = some xx)
    (hs : P.underlying sT = some (.slice e)) (hx : P.underlying xT = some (.slice e2)) (hsz : szOf P e = some size) (hz : zeroOf P e = some z) (hby : (P.info? e).map (·.bytes) = some bytes) (hzl : z.length = size) (hs0 : size ≠ 0) (hb1 : bytes ≤ 65536) (hb2 : size ≤ 65536)
    (hsx : compX sx = some sx') (hxx : compX xx = some xx') (hT : TR ι T a.tmps) (hW : WR P ι s w) (he : w_app size sx' xx' T s k = some res) :
    ∃ v s1,k v s1 = some res ∧ Does P ι s w a o v s1 := by
  subst ho
  have g1 := compX_ok hsx hT
  have g2 := compX_ok hxx hT
  have a1 : (c.args.map a.eval)[0]? = some (a.eval sx) := by simp [h3]
  have a2 : (c.args.map a.eval)[1]? = some (a.eval xx) := by simp [h4]
  obtain ⟨zv,hzr,hzc,hzv,_⟩ := zeroOf_ok hz
  have hzs : zv.cells.size = size := by rw [zero_cells hzc,hzl]
  have hrun : ∀ (v : Value) (w' : World),(Builtin.append_ c.argTypes ty (c.args.map a.eval)).run P w = .ok v w' → (execOp a.eval ⟨dst,.call c,ty,pos,after,guard⟩).run P w = .ok (.value v) w' := fun v w' h => by
    obtain ⟨callee,args,argTypes⟩ := c
    simp only at hc
    subst hc
    simp only [execOp,resolve,invoke,Sem.run_bind,Sem.run_pure,Result.andThen_ok,builtin,h]
  have grow : ∀ {ad ad' : Option Addr} {n m cp cp' : Nat} {old new : List Value} (base : Option Addr) (cpr : Nat),VR ι (.slice ad n cp) (a.eval sx) → VR ι (.slice ad' m cp') (a.eval xx) → a.eval sx = .slice base n cpr → ¬ n + m ≤ cpr → n + m ≤ 65536 →
      rowOf s.h (n * size) ad = some old → rowOf s.h (m * size) ad' = some new →
      ∃ t x,(Builtin.append_ c.argTypes ty (c.args.map a.eval)).run P w = .ok (.slice (some ⟨w.heap.size,0,none⟩) (n + m) t) { w with drawn := w.drawn + 1,heap := w.heap.push x } ∧ n + m ≤ t ∧ ∀ ι',Ext ι ι' → OR P ι' (t * size) (.cells (app old new)) x := by
    intro ad ad' n m cp cp' old new base cpr g1 g2 hr hk hlim hold hnew
    have hW1 : WR P ι s { w with drawn := w.drawn + 1 } := (Po.draw hW _).wr
    obtain ⟨new',hn1,hn2,_,hn4⟩ := first_ok (P := P) hW g2 hnew
    obtain ⟨new2,hn1',_,hn3,hn4'⟩ := first_ok (P := P) hW1 g2 hnew
    obtain ⟨old',ho1,_,ho3,ho4⟩ := first_ok (P := P) hW1 g1 hold
    cases hi : P.info? e with
    | none => rw [hi] at hby; cases hby
    | some i =>
      rw [hi] at hby
      cases hby
      refine ⟨_,_,app_grow hs hx hsz hi hb1 hr hn2 hlim hk rfl ho3 hn3 hzr h1 h2 a1 a2,?_,?_⟩
      · simp only [Question.cut]; omega
      · intro ι' hext
        refine ⟨_,e,rfl,?_,old' ++ new2,(Builtin.zeroCells zv.cells _).toList,by rw [Array.toList_append,Array.toList_append],by rw [app_eq]; exact (ho1.append hn1').mono hext⟩
        simp only [Array.size_append,List.size_toArray,zeroCells_size,hzs,ho4,hn4',Question.cut]
        rw [← Nat.add_mul,← Nat.add_mul]
        congr 1
        omega
  simp only [w_app] at he
  split at he
  · rename_i ad n cp ad' m cp' e1 e2'
    rw [e1] at g1
    rw [e2'] at g2
    split at he
    · cases he
    · rename_i new hnew
      obtain ⟨new',hn1,hn2,hn3,hn4⟩ := first_ok (P := P) hW g2 hnew
      split at he
      · rename_i hone hble hlt
        have hlim : n + m ≤ 65536 := Nat.le_of_ble_eq_true hble
        have hltn := blt_true hlt
        split at he
        · rename_i hcp
          have hcp' : cp < 2 ^ 64 := by simpa [Nat.blt_eq] using hcp
          split at he
          · rename_i hfit
            have hfit' : n + m ≤ cp := Nat.le_of_ble_eq_true hfit
            split at he
            · rename_i b o
              obtain ⟨r,kk,hr,hb⟩ := g1.slI hcp'
              split at he
              · rename_i cs hcs
                split at he
                · rename_i cs' hov
                  rw [St.putK_eq] at he
                  obtain ⟨w',hst,hpo⟩ := store_ok hW hcs hb hn1 hone hov
                  refine ⟨_,_,he,_,ι,w',.sl hb hcp',hpo,.inl (hrun _ _ ?_)⟩
                  refine app_in hs hx hsz hn2 hn3 hfit' ?_ h1 h2 (by rw [a1,hr]) a2
                  have : (⟨r,o,none⟩ : Addr).add (n * size) = ⟨r,o + n * size,none⟩ := by unfold Addr.add; split <;> simp_all
                  rw [this]
                  exact hst
                · cases he
              · cases he
            · split at he
              · rename_i h0
                have hr := g1.sl0I hcp'
                refine ⟨_,_,he,_,ι,w,.sl0 _ _ hcp',Po.refl hW,.inl (hrun _ _ ?_)⟩
                exact app_nil (n := n) (m := 0) hs hx hsz hn2 hn3 hfit' h1 h2 (by rw [a1,hr]) a2
              · cases he
            · cases he
          · rename_i hfit
            have hfit' : ¬ n + m ≤ cp := fun h => by have := Nat.ble_eq_true_of_le h; rw [show Nat.ble (n + m) cp = Nat.ble (Nat.add n m) cp from rfl,hfit] at this; cases this
            split at he
            · cases he
            · rename_i old hold
              rw [St.newK_eq] at he
              have hr : ∃ base cpr,a.eval sx = .slice base n cpr ∧ ¬ n + m ≤ cpr := by
                cases ad with
                | none => exact ⟨none,cp,g1.sl0I hcp',hfit'⟩
                | some ad =>
                  obtain ⟨b,o,sp⟩ := ad
                  cases sp with
                  | some _ => cases g1
                  | none => obtain ⟨r,kk,hr,hb⟩ := g1.slI hcp'; exact ⟨_,cp,hr,hfit'⟩
              obtain ⟨base,cpr,hr,hk⟩ := hr
              obtain ⟨t,x,hap,hle,hor⟩ := grow base cpr g1 g2 hr hk hlim hold hnew
              obtain ⟨ι',hι',hpo⟩ := Po.new (Po.draw hW (w.drawn + 1)).wr (o := .cells (app old new)) hltn hor
              exact ⟨_,_,he,_,ι',_,.slU hι' hle (by omega) (by omega) (by omega),(Po.draw hW _).trans hpo,.inl (hrun _ _ hap)⟩
        · rename_i hcp
          split at he
          · rename_i b
            split at he
            · rename_i cs hcs
              split at he
              · rename_i hl1 hl2
                rw [St.putK_eq,St.newK_eq] at he
                have hcp2 : cp = 2 ^ 64 + size := Nat.eq_of_beq_eq_true hl2
                subst hcp2
                obtain ⟨r,kc,kk,hr,hb,hnk,hcap,hsz1,hsz2⟩ := g1.slUI
                have hcl : cs.length = n * size := by have := Nat.eq_of_beq_eq_true hl1; rw [len_eq] at this; exact this
                obtain ⟨r',k2,x,q1,q2,cs',ty',rfl,q3,l',tl,q4,q5⟩ := hW.obj _ _ hcs
                rw [hb] at q1
                cases q1
                by_cases hroom : n + m ≤ kk
                · have hl' : l'.length = n * size := by rw [← q5.length,hcl]
                  have hsz' : cs'.size = kk * size := by rw [q3]; omega
                  have hle : (n + m) * size ≤ kk * size := Nat.mul_le_mul_right size hroom
                  rw [Nat.add_mul] at hle
                  have hst := run_storeCells_at P r (n * size) ty' new' 0 cs' w q2 (by rw [hn4]; omega) (fun v hv => (List.all_eq_true.1 (hn1.ones hone)) v hv)
                  have hrow : cs'.toList.take (n * size + 0) ++ new' ++ cs'.toList.drop (n * size + 0 + new'.length) = (l' ++ new') ++ tl.drop new'.length := by
                    rw [Nat.add_zero,q4,List.take_append_of_le_length (by omega),List.take_of_length_le (by omega),List.drop_append]
                    rw [List.drop_of_length_le (by omega),hl']
                    have e0 : n * size + new'.length - n * size = new'.length := by omega
                    rw [e0,List.nil_append]
                  rw [hrow] at hst
                  have hsize : ((l' ++ new') ++ tl.drop new'.length).toArray.size = kc := by
                    have e1 : cs'.size = l'.length + tl.length := by rw [← Array.length_toList,q4,List.length_append]
                    rw [hsz',hl'] at e1
                    simp only [List.size_toArray,List.length_append,List.length_drop,hn4,hl']
                    rw [← hcap]
                    omega
                  obtain ⟨ι',hι',hpo⟩ := Po.move hW (b := b) (o := .cells (app cs new)) (x := .cells ((l' ++ new') ++ tl.drop new'.length).toArray ty') (w' := w.setRow r ((l' ++ new') ++ tl.drop new'.length).toArray) (by rw [hcs]; simp) hb hltn
                    (fun ι' he => ⟨_,_,rfl,hsize,l' ++ new',tl.drop new'.length,by simp,by rw [app_eq]; exact (q5.append hn1).mono he⟩)
                    ⟨setRow_heap w r cs' _ ty' _ q2,fun j hj => setRow_other w r j _ hj,by simp,rfl,rfl,rfl⟩
                  refine ⟨_,_,he,_,ι',_,.slU hι' hroom (by omega) hsz1 hsz2,hpo,.inl (hrun _ _ ?_)⟩
                  refine app_in hs hx hsz hn2 hn3 hroom ?_ h1 h2 (by rw [a1,hr]) a2
                  have : (⟨r,0,none⟩ : Addr).add (n * size) = ⟨r,n * size,none⟩ := by unfold Addr.add; split <;> simp_all
                  rw [this]
                  exact hst
                · have hold : rowOf s.h (n * size) (some ⟨b,0,none⟩) = some cs := by
                    simp only [rowOf,hcs]
                    rw [← hcl]
                    exact sub_all cs
                  obtain ⟨t,x,hap,hle,hor⟩ := grow _ kk g1 g2 hr hroom hlim hold hnew
                  have hk1 := Po.kill hW (b := b) (by rw [hcs]; simp) hb
                  obtain ⟨ι',hι',hpo⟩ := Po.new (Po.draw hk1.wr (w.drawn + 1)).wr (o := .cells (app cs new)) hltn hor
                  exact ⟨_,_,he,_,ι',_,.slU hι' hle (by omega) hsz1 hsz2,(hk1.trans (Po.draw hk1.wr _)).trans hpo,.inl (hrun _ _ hap)⟩
              · cases he
            · cases he
          · cases he
      · cases he
  · cases he
end
end Go.Sim
namespace Go.Sim
set_option linter.all false
open Go
variable [Rho] [Asm] [SymOK]

def FW (l : Option Nat) : Fence := { Fence.wide with round := l }
section
variable {P : Program} {ι : Io} {T : Tm} {a : Act} {s : St} {w : World}

theorem evW_ok {o : Oper} {wo : WOp} {β : Type} {k : Value → St → Option β} {res : β} (hc : compW P o = some wo) (hT : TR ι T a.tmps) (hW : WR P ι s w) (he : evW T s wo k = some res) : ∃ v s1,k v s1 = some res ∧ Does P ι s w a o v s1 := by
  obtain ⟨dst,op,type,pos,after,guard⟩ := o
  cases op <;> simp only [compW] at hc <;> try (cases hc; done)
  case store t ad x =>
    simp only [bind,Option.bind_eq_some_iff,Option.some.injEq] at hc
    obtain ⟨n,hn,ad',ha,x',hx,rfl⟩ := hc
    exact evSt_ok hn ha hx hT hW he
  case mapUpdate t m kx vx =>
    split at hc
    · rename_i key elem hu
      simp only [bind,Option.bind_eq_some_iff,Option.some.injEq] at hc
      obtain ⟨n,hn,ag,hag,m',hm,k',hk,v',hv,rfl⟩ := hc
      exact evMup_ok hu hn hag hm hk hv hT hW he
    · cases hc
  case call c =>
    split at hc
    · rename_i e e2 sx xx h0 h1 h2 h3 h4
      simp only [bind,Option.bind_eq_some_iff] at hc
      obtain ⟨size,hsz,z,hz,bytes,hby,hc⟩ := hc
      split at hc
      · cases hc
      · rename_i hcond
        simp only [Option.bind_eq_some_iff,Option.some.injEq] at hc
        obtain ⟨sx',hsx,xx',hxx,rfl⟩ := hc
        simp only [Bool.or_eq_true,bne_iff_ne,ne_eq,decide_eq_true_eq,not_or,Decidable.not_not,Nat.not_lt] at hcond
        obtain ⟨⟨⟨q1,q2⟩,q3⟩,q4⟩ := hcond
        obtain ⟨sT,t1,t2⟩ := Option.bind_eq_some_iff.1 h1
        obtain ⟨xT,t3,t4⟩ := Option.bind_eq_some_iff.1 h2
        exact evApp_ok rfl h0 t1 t3 h3 h4 t2 t4 hsz hz hby q1 q2 q3 q4 hsx hxx hT hW he
    · cases hc

def Goes (P : Program) (l : Option Nat) (n : Nat) (ι : Io) (s : St) (w : World) (a : Act) (o : Oper) (v : Value) (s1 : St) : Prop :=
  ∀ (next : Act → World → Prop) (Q : Exit → Act → World → Prop),(∀ v' ι' w',VR ι' v v' → Po P ι s w ι' s1 w' → next (a.put o.dst v') w') → o.wpIn (FW l) n P a w next Q

theorem goes_run {l : Option Nat} {n : Nat} {o : Oper} {v v' : Value} {s1 : St} {ι' : Io} {w' : World} (hd : ∀ c,o.op ≠ .defer c) (hv : VR ι' v v') (hp : Po P ι s w ι' s1 w')
    (hr : (execOp a.eval o).run P w = .ok (.value v') w' ∨ ((execOp a.eval o).run P w = .ok .skip w' ∧ v' = undef)) : Goes P l n ι s w a o v s1 := by
  intro next Q hK
  refine ⟨fun _ _ => trivial,?_⟩
  rw [Oper.semAt_eq _ _ _ hd]
  rcases hr with hr | ⟨hr,rfl⟩
  · rw [hr]; exact hK _ _ _ hv hp
  · rw [hr]; exact hK _ _ _ hv hp

def CallR (P : Program) (fv : Value) (args : List Value) (w : World) (R : Value → World → Prop) : Prop :=
  (∃ g xs ys fn,fv = .func (.func g) ⟨xs⟩ ⟨ys⟩ ∧ P.funcs[g]? = some fn ∧ fn.body.isSome = true ∧ (fn.name == "runtime.NumGoroutine") = false ∧
    ∀ n,CallsIn Fence.wide n P g ⟨xs ++ args ++ ys⟩ w fun e w' => ∃ v',e = .returned v' ∧ R v' w') ∨
  (∃ r lp,fv = .func (.yield r) #[] #[] ∧ w.heap[r]? = some (.loop lp) ∧ args.length = lp.params.size ∧
    ∀ n,RoundIn Fence.wide n P r lp.fn ((lp.params.zip ⟨args⟩).foldl (fun tmps (t,x) => tmps.setIfInBounds t x) lp.tmps) lp.assign lp.body w fun e w' => ∃ v',e = .returned v' ∧ R v' w')

def CallOK (P : Program) (call : Value → List Value → St → Option (Value × St)) : Prop :=
  ∀ fv args s v s1,call fv args s = some (v,s1) → ∀ ι w fv' args',VR ι fv fv' → LR ι args args' → WR P ι s w → CallR P fv' args' w fun v' w' => ∃ ι',VR ι' v v' ∧ Po P ι s w ι' s1 w'

theorem goes_call {l : Option Nat} {n : Nat} {c : Call} {f : Operand} {v : Value} {s1 : St} {dst : Option Tmp} {ty : TypeId} {pos : String} {after : Array Edge} {guard : Option (Nat × Bool)} (hcal : c.callee = .value f)
    (h : CallR P (a.eval f) (c.args.map a.eval).toList w fun v' w' => ∃ ι',VR ι' v v' ∧ Po P ι s w ι' s1 w') : Goes P l n ι s w a ⟨dst,.call c,ty,pos,after,guard⟩ v s1 := by
  intro next Q hK
  refine ⟨fun _ _ => trivial,?_⟩
  rw [Oper.semAt_eq _ _ _ (fun c h => by cases h)]
  obtain ⟨callee,args,argTypes⟩ := c
  simp only at hcal
  subst hcal
  rcases h with ⟨g,xs,ys,fn,hf,hfn,hb,hname,hcall⟩ | ⟨r,lp,hf,hheap,hlen,hround⟩
  · have hbn : fn.body.isNone = false := by cases hbb : fn.body <;> simp_all
    have hrun : (execOp a.eval ⟨dst,.call ⟨.value f,args,argTypes⟩,ty,pos,after,guard⟩).run P w = .ok (.enter g ⟨xs ++ (args.map a.eval).toList ++ ys⟩) w := by
      simp only [execOp,resolve,Deferred.ofValue,hf,Sem.run_bind,Sem.run_pure,Result.andThen_ok,invoke,callFunc,run_program,hfn,hname,hbn,Bool.false_eq_true,if_false]
      congr 2
      simp
    rw [hrun]
    refine ⟨fun h => by simp [FW,Fence.wide] at h,?_⟩
    refine CallsIn.mono (hcall _ : CallsIn (FW l) (n - 1) P g _ w _) ?_
    rintro e w' ⟨v',rfl,ι',hv,hp⟩
    exact hK _ _ _ hv hp
  · have hg : (getObj r).run P w = .ok (.loop lp) w := getObj_run hheap (fun _ _ _ h => by cases h)
    have hrun : (execOp a.eval ⟨dst,.call ⟨.value f,args,argTypes⟩,ty,pos,after,guard⟩).run P w = .ok (.round r lp.fn ((lp.params.zip (args.map a.eval)).foldl (fun tmps (t,x) => tmps.setIfInBounds t x) lp.tmps) lp.assign lp.body) w := by
      have hlen' : (args.map a.eval).size = lp.params.size := by simpa using hlen
      simp only [Array.size_map] at hlen'
      simp [execOp,resolve,Deferred.ofValue,hf,invoke,Instr.yield,Instr.getLoop,hg,hlen']
    rw [hrun]
    refine ⟨fun h => by simp [FW,Fence.wide] at h,?_⟩
    refine RoundIn.mono (hround _ : RoundIn (FW l) (n - 1) P r lp.fn _ _ _ w _) ?_
    rintro e w' ⟨v',rfl,ι',hv,hp⟩
    exact hK _ _ _ hv hp

theorem compC1_ok {o : Oper} {io : IOp} (h : compC1 P o = some io) : compC0 P o = some io ∨ io = badOp := by
  unfold compC1 at h
  split at h
  · rename_i h0; cases h; exact .inl h0
  · cases h; exact .inr rfl
theorem bad_none {call : Value → List Value → St → Option (Value × St)} {io : Ins} {β : Type} {k : Value → St → Option β} (h : io.op = badOp) : evI call io T s k = none := by
  unfold evI
  rw [h]
  rfl
theorem notDefer {o : Oper} {io : IOp} (hc : compC0 P o = some io) : ∀ c,o.op ≠ .defer c := by
  intro c h
  simp [compC0,h,compP,compR,compA,compW] at hc

theorem evI_ok {call : Value → List Value → St → Option (Value × St)} (hcall : CallOK P call) {o : Oper} {io : Ins} {β : Type} {k : Value → St → Option β} {res : β} (hc : compC1 P o = some io.op) (hT : TR ι T a.tmps) (hW : WR P ι s w) (he : evI call io T s k = some res) :
    ∃ v s1,k v s1 = some res ∧ ∀ l n,Goes P l n ι s w a o v s1 := by
  replace hc : compC0 P o = some io.op := by
    rcases compC1_ok hc with h | h
    · exact h
    · rw [bad_none h] at he; cases he
  have hnd := notDefer hc
  have plain : ∀ {q : IOp},io.op = q → (match compP P o with
      | some p => some (.p p)
      | none => match compR P o with
        | some r => some (.r r)
        | none => match compA P o with
          | some a => some (.a a)
          | none => match compW P o with
            | some w => some (.w w)
            | none => none) = some q → ∃ v s1,k v s1 = some res ∧ ∀ l n,Goes P l n ι s w a o v s1 := by
    intro q hq h
    unfold evI at he
    rw [hq] at he
    split at h
    · rename_i p hp
      cases h
      simp only [i_p] at he
      split at he
      · rename_i v hv
        obtain ⟨v',hvr,hr⟩ := evP_ok hp hT hv
        exact ⟨v,s,he,fun l n => goes_run hnd hvr (Po.refl hW) (.inl (hr w))⟩
      · cases he
    · split at h
      · rename_i r hr
        cases h
        simp only [i_r] at he
        split at he
        · rename_i v hv
          obtain ⟨v',hvr,hrun⟩ := evR_ok hr hT hW hv
          exact ⟨v,s,he,fun l n => goes_run hnd hvr (Po.refl hW) (.inl hrun)⟩
        · cases he
      · split at h
        · rename_i aa ha
          cases h
          simp only [i_a] at he
          split at he
          · cases he
          · rename_i hlt
            split at he
            · rename_i lo f hf
              rw [St.newK_eq] at he
              obtain ⟨c,x,g,hrun,hor,hvr⟩ := evA_ok (P := P) ha hT hf
              obtain ⟨ι',hι',hpo⟩ := Po.new hW (blt_true hlt) hor
              exact ⟨_,_,he,fun l n => goes_run hnd (hvr ι' _ _ hι') hpo (.inl (hrun w))⟩
            · cases he
        · split at h
          · rename_i wo hw
            cases h
            simp only [i_w] at he
            obtain ⟨v,s1,hk,v',ι',w',hvr,hpo,hrun⟩ := evW_ok hw hT hW he
            exact ⟨v,s1,hk,fun l n => goes_run hnd hvr hpo hrun⟩
          · cases h
  obtain ⟨dst,op,type,pos,after,guard⟩ := o
  unfold compC0 at hc
  split at hc
  · rename_i f args at_ hop
    try simp only at hop
    subst hop
    simp only [bind,Option.bind_eq_some_iff,Option.some.injEq] at hc
    obtain ⟨f',hf,args',hargs,hq⟩ := hc
    unfold evI at he
    rw [← hq] at he
    simp only [i_call] at he
    split at he
    · rename_i v s1 hv
      exact ⟨v,s1,he,fun l n => goes_call rfl (hcall _ _ _ _ _ hv ι w _ _ (compX_ok hf hT) (compXs_ok hargs hT) hW)⟩
    · cases he
  · exact plain rfl hc

theorem tget_put {T : Tm} {t : Nat} {v : Value} (h : t < limT) (j : Nat) : tget (tput T t v) j = if j = t then v else tget T j := by
  unfold tget tput
  rw [Tr.get_set DT T t (some v) j (by unfold limT at h; unfold DT; omega)]
  by_cases e : j = t <;> simp [e]
theorem TR.put {ι : Io} {T : Tm} {tmps : Array Value} (hT : TR ι T tmps) {t : Nat} {v v' : Value} (h : t < limT) (hs : t < tmps.size) (hv : VR ι v v') : TR ι (tput T t v) (tmps.setIfInBounds t v') := by
  intro j
  rw [tget_put h]
  by_cases e : j = t
  · subst e
    simp [hs]
    exact hv
  · rw [if_neg e]
    have := hT j
    simpa [Array.getElem?_setIfInBounds_ne (Ne.symm e)] using this
theorem put_ok {ι : Io} {nt : Nat} {d : Option Nat} {v v' : Value} (hd : dstOk nt d = true) (hs : nt ≤ a.tmps.size) (hT : TR ι T a.tmps) (hv : VR ι v v') {β : Type} {k : Tm → β} :
    ∃ T1,putD d T v k = k T1 ∧ TR ι T1 (a.put d v').tmps ∧ (a.put d v').tmps.size = a.tmps.size ∧ (a.put d v').defers = a.defers := by
  cases d with
  | none => exact ⟨T,rfl,hT,rfl,rfl⟩
  | some d =>
    simp only [dstOk,Bool.and_eq_true] at hd
    have h1 := blt_true hd.1
    have h2 := blt_true hd.2
    refine ⟨tput T d v,by simp only [putD,Tr.setK_eq]; rfl,?_,by simp [Act.put],rfl⟩
    exact hT.put h2 (by omega) hv

theorem wanted_ok {ι : Io} {ops : Array Oper} {o : Oper} {g : Option (Nat × Bool)} (hT : TR ι T a.tmps) (hg : compG ops o.guard = some g) : (wanted T g = true ∨ gOK T g = true) → Region.wanted o (yielded ops a.tmps) = wanted T g := by
  unfold Region.wanted
  cases ho : o.guard with
  | none =>
    rw [ho] at hg
    simp only [compG,Option.some.injEq] at hg
    subst hg
    intro _
    rfl
  | some jb =>
    obtain ⟨j,b⟩ := jb
    rw [ho] at hg
    simp only [compG] at hg
    split at hg
    · rename_i t ht
      cases hg
      simp only [yielded,ht,Option.bind_some,wanted,gOK]
      have hv := hT t
      cases hq : a.tmps[t]? with
      | none =>
        have e : a.tmps.getD t undef = undef := by simp [hq]
        rw [e] at hv
        generalize tget T t = x at hv
        cases hv <;> first
          | (simp; done)
          | (rename_i hs; cases hs)
      | some y =>
        have e : a.tmps.getD t undef = y := by simp [hq]
        rw [e] at hv
        generalize tget T t = x at hv
        intro hk
        cases hv <;> first
          | (exfalso; simp at hk; done)
          | (cases b <;> simp; done)
          | (rename_i c; cases b <;> cases c <;> rfl)
    · cases hg

def pairV (v : Value) (s : St) : Option (Value × St) := some (v,s)
def pairT (T : Tm) (s : St) : Option (Tm × St) := some (T,s)
theorem w_st_k {β : Type} (n : Nat) (x y : Opd) (T : Tm) (s : St) (k : Value → St → Option β) : w_st n x y T s k = (w_st n x y T s pairV).bind fun p => k p.1 p.2 := by
  unfold w_st
  simp only [St.putK_eq,St.newK_eq]
  repeat' (first | rfl | split)
theorem w_mup_k {β : Type} (n : Nat) (ag : Bool) (m x y : Opd) (T : Tm) (s : St) (k : Value → St → Option β) : w_mup n ag m x y T s k = (w_mup n ag m x y T s pairV).bind fun p => k p.1 p.2 := by
  unfold w_mup
  simp only [St.putK_eq,St.newK_eq]
  repeat' (first | rfl | split)
theorem w_app_k {β : Type} (n : Nat) (x y : Opd) (T : Tm) (s : St) (k : Value → St → Option β) : w_app n x y T s k = (w_app n x y T s pairV).bind fun p => k p.1 p.2 := by
  unfold w_app
  simp only [St.putK_eq,St.newK_eq]
  repeat' (first | rfl | split)
theorem evI_k (call : Value → List Value → St → Option (Value × St)) {β : Type} (io : Ins) (T : Tm) (s : St) (k : Value → St → Option β) : evI call io T s k = (evI call io T s pairV).bind fun p => k p.1 p.2 := by
  unfold evI
  split
  · unfold i_p; split <;> rfl
  · unfold i_r; split <;> rfl
  · unfold i_a
    split
    · rfl
    · split
      · simp only [St.newK_eq]; rfl
      · rfl
  · unfold i_w evW evWd
    rename_i op _
    cases op
    · exact w_st_k ..
    · exact w_mup_k ..
    · exact w_app_k ..
  · unfold i_call; split <;> rfl
theorem evOps_k (call : Value → List Value → St → Option (Value × St)) {β : Type} : ∀ (l : List Ins) (T : Tm) (s : St) (k : Tm → St → Option β),evOps call l T s k = (evOps call l T s pairT).bind fun p => k p.1 p.2
  | [],T,s,k => rfl
  | o :: l,T,s,k => by
    simp only [evOps]
    split
    · rw [evI_k,evI_k (k := fun v s => force v fun v => putD o.dst T v fun T => evOps call l T s pairT)]
      cases evI call o T s pairV with
      | none => rfl
      | some p =>
        simp only [Option.bind_some,force_eq]
        cases o.dst with
        | none => simp only [putD]; exact evOps_k call l _ _ k
        | some d => simp only [putD,Tr.setK_eq]; exact evOps_k call l _ _ k
    · cases gOK T o.grd with
      | false => rfl
      | true =>
        simp only
        cases o.dst with
        | none => simp only [putD]; exact evOps_k call l _ _ k
        | some d => simp only [putD,Tr.setK_eq]; exact evOps_k call l _ _ k

theorem evOps_ok {call : Value → List Value → St → Option (Value × St)} (hcall : CallOK P call) {nt : Nat} {ops : Array Oper} {l : Option Nat} {n : Nat} : ∀ {rs : List Oper} {i : Nat} {il : List Ins} {T T2 : Tm} {s s2 : St} {ι : Io} {w : World} {a : Act},
    ops.toList.drop i = rs → compOps P nt ops rs = some il → evOps call il T s pairT = some (T2,s2) → TR ι T a.tmps → nt ≤ a.tmps.size → WR P ι s w →
    ∀ Q : Exit → Act → World → Prop,(∀ a' ι' w',TR ι' T2 a'.tmps → a'.tmps.size = a.tmps.size → a'.defers = a.defers → Po P ι s w ι' s2 w' → Q .normal a' w') → wpOpsIn (FW l) n P ops Q (List.range' i rs.length) a w := by
  intro rs
  induction rs with
  | nil =>
    intro i il T T2 s s2 ι w a hd hc he hT hs hW Q hQ
    simp only [compOps,Option.some.injEq] at hc
    subst hc
    cases he
    exact hQ a ι w hT rfl rfl (Po.refl hW)
  | cons o rs ih =>
    intro i il T T2 s s2 ι w a hd hc he hT hs hW Q hQ
    simp only [compOps] at hc
    cases h1 : compIO P nt ops o with
    | none => rw [h1] at hc; cases hc
    | some io =>
      rw [h1] at hc
      simp only at hc
      cases h2 : compOps P nt ops rs with
      | none => rw [h2] at hc; cases hc
      | some il' =>
        rw [h2] at hc
        cases hc
        have hoi : ops[i]? = some o := by
          rw [← Array.getElem?_toList]
          have : (ops.toList.drop i)[0]? = some o := by rw [hd]; rfl
          simpa using this
        have hd' : ops.toList.drop (i + 1) = rs := by
          rw [← List.drop_drop,hd]; rfl
        unfold compIO at h1
        split at h1
        · rename_i hdst
          simp only [bind,Option.bind_eq_some_iff,Option.some.injEq] at h1
          obtain ⟨op',hop,g,hg,rfl⟩ := h1
          simp only [evOps] at he
          have hgk : wanted T g = true ∨ gOK T g = true := by
            cases hwt : wanted T g with
            | true => exact .inl rfl
            | false =>
              rw [hwt] at he
              simp only at he
              cases hgk : gOK T g with
              | true => exact .inr rfl
              | false => rw [hgk] at he; cases he
          have hw := wanted_ok hT hg hgk
          simp only [List.length_cons,List.range'_succ,wpOpsIn,hoi]
          cases hwt : wanted T g with
          | true =>
            rw [hwt] at he
            simp only at he
            rw [hw,hwt,if_pos rfl]
            obtain ⟨v,s1,hk,hgo⟩ := evI_ok hcall hop hT hW he
            rw [force_eq] at hk
            refine hgo l n _ _ fun v' ι' w' hv hp => ?_
            obtain ⟨T1,e1,hT1,hs1,hdf⟩ := put_ok (a := a) (k := fun T => evOps call il' T s1 pairT) hdst hs (hT.mono hp.ext) hv
            rw [e1] at hk
            exact ih hd' h2 hk hT1 (by omega) hp.wr Q fun a' ι'' w'' q1 q2 q3 q4 => hQ a' ι'' w'' q1 (by omega) (by rw [q3,hdf]) (hp.trans q4)
          | false =>
            have hgk' : gOK T g = true := by
              rcases hgk with h | h
              · rw [hwt] at h; cases h
              · exact h
            rw [hwt] at he
            simp only [hgk'] at he
            obtain ⟨T1,e1,hT1,hs1,hdf⟩ := put_ok (k := fun T => evOps call il' T s pairT) hdst hs hT (undef_ok ι)
            rw [e1] at he
            rw [hw,hwt,if_neg (by simp)]
            exact ⟨fun _ _ => trivial,ih hd' h2 he hT1 (by omega) hW Q fun a' ι' w' q1 q2 q3 q4 => hQ a' ι' w' q1 (by omega) (by rw [q3,hdf]) q4⟩
        · cases h1
end
end Go.Sim
namespace Go.Sim
set_option linter.all false
open Go
variable [Rho] [Asm] [SymOK]

def LoopR (F : Fence) (n : Nat) (P : Program) (c : Code) (Q : Exit → Act → World → Prop) (a : Act) (w : World) : Prop :=
  ∀ (b : Frame) (k : List Item) (cs : List Frame),b.roundOf = F.round → F.fn b.fn → F.room (cs.length + 1 + n) →
    ∃ e a' w',Q e a' w' ∧ ArrivesIn (Machine.fenced P F) P (lone (b.atR a (.code c :: .inLoop c :: k)) cs w) b k cs e a' w'
theorem loopR_wp {F : Fence} {n : Nat} {P : Program} {c : Code} {Q : Exit → Act → World → Prop} {a : Act} {w : World} (h : LoopR F n P c Q a w) : (Code.loop c).wpIn F n P Q a w := by
  intro b k cs hro hb hr
  obtain ⟨e,a',w',hq,harr⟩ := h b k cs hro hb hr
  exact ⟨e,a',w',hq,.of_steps (.one (fenced_calm hb hr rfl) stepR_loop) harr⟩
theorem loopR_step {F : Fence} {n : Nat} {P : Program} {c : Code} {Q : Exit → Act → World → Prop} {a : Act} {w : World} (h : c.wpIn F n P (Exit.then (LoopR F n P c Q) Q) a w) : LoopR F n P c Q a w := by
  intro b k cs hro hb hr
  obtain ⟨e,a₁,w₁,hq,harr⟩ := h b (.inLoop c :: k) cs hro hb hr
  cases e with
  | normal =>
    obtain ⟨e₂,a₂,w₂,hq₂,harr₂⟩ := hq b k cs hro hb hr
    exact ⟨e₂,a₂,w₂,hq₂,.of_steps (StepsIn.trans harr (.one (fenced_calm hb hr rfl) stepR_inLoop)) harr₂⟩
  | exit id => exact ⟨_,a₁,w₁,hq,.pass (x := .inLoop c) rfl (fun _ _ => .inl (by simp)) harr⟩
  | goto l => exact ⟨_,a₁,w₁,hq,.pass (x := .inLoop c) rfl (fun _ _ => .inl (by simp)) harr⟩
  | ret => exact ⟨_,a₁,w₁,hq,.pass (x := .inLoop c) rfl (fun _ _ => .inl (by simp)) harr⟩
  | panic ch => exact ⟨_,a₁,w₁,hq,.pass (x := .inLoop c) rfl (fun _ _ => .inl (by simp)) harr⟩
  | outgrown => exact ⟨_,a₁,w₁,hq,.pass (x := .inLoop c) rfl (fun _ _ => .inl (by simp)) harr⟩
theorem wpIn_scope {n : Nat} {P : Program} {c : Code} {Q : Exit → Act → World → Prop} {a : Act} {w : World} (h : c.wpIn Fence.wide n P (Exit.noGoto Q) a w) : (Code.scope c).wpIn Fence.wide n P Q a w :=
  wpIn_wide.2 (wp_scope_straight ((wpIn_wide (n := n)).1 h))

section
variable {P : Program} {ι : Io} {T : Tm} {a : Act} {s : St} {w : World}

theorem argsT_ok : ∀ {vs vs' pre : List Value} {k : Nat} {T : Tm},LR ι vs vs' → TR ι T ⟨pre ++ List.replicate k undef⟩ → vs.length ≤ k → pre.length + k ≤ limT → TR ι (argsT T pre.length vs) ⟨pre ++ vs' ++ List.replicate (k - vs.length) undef⟩
  | [],_,pre,k,T,.nil,h,_,_ => by simpa [argsT] using h
  | v :: vs,_,pre,k,T,.cons (v' := v') (l' := vs') hv hl,h,hk,hlim => by
    simp only [List.length_cons] at hk
    obtain ⟨j,rfl⟩ : ∃ j,k = j + 1 := ⟨k - 1,by omega⟩
    have h1 : TR ι (tput T pre.length v) ⟨(pre ++ [v']) ++ List.replicate j undef⟩ := by
      have := h.put (t := pre.length) (v := v) (v' := v') (by omega) (by simp) hv
      simpa [List.replicate_succ] using this
    have h2 := argsT_ok (pre := pre ++ [v']) hl h1 (by omega) (by simp; omega)
    simp only [List.length_append,List.length_cons,List.length_nil,Nat.zero_add] at h2
    have e : j + 1 - (vs.length + 1) = j - vs.length := by omega
    simp only [argsT,List.length_cons,e]
    simpa using h2
theorem tr_e (n : Nat) : TR ι .e ⟨List.replicate n undef⟩ := by
  intro t
  have e : (⟨List.replicate n undef⟩ : Array Value).getD t undef = undef := by
    simp only [Array.getD_eq_getD_getElem?,List.getElem?_toArray,List.getElem?_replicate]
    split <;> rfl
  rw [e,show tget .e t = .tuple ⟨[]⟩ by unfold tget; rw [Tr.get_e]]
  exact undef_ok ι

def resOne (tmps : Array Value) : ResultVar → Sem Value
  | .tmp t => pure (tmps.getD t undef)
  | .cell a t => do loadVar t (← asAddr (tmps.getD a undef))
theorem results_eq (fn : Func) (tmps : Array Value) : results fn tmps = (do let vs ← fn.results.mapM (resOne tmps); pure (if h : vs.size = 1 then vs[0] else .tuple vs)) := by
  unfold results
  congr 1
theorem resV_ok {h : Tr LO} (hW : WR P ι s w) (hs : s.h = h) {tmps : Array Value} (hT : TR ι T tmps) : ∀ {l : List ResultVar} {rs : List IRes} {vs : List Value},l.mapM (compRes P) = some rs → resV T h rs = some vs →
    ∃ vs',LR ι vs vs' ∧ (l.mapM (resOne tmps)).run P w = .ok vs' w := by
  subst hs
  intro l
  induction l with
  | nil =>
    intro rs vs hc he
    simp at hc
    subst hc
    simp only [resV,Option.some.injEq] at he
    subst he
    exact ⟨[],.nil,by simp⟩
  | cons r l ih =>
    intro rs vs hc he
    simp only [List.mapM_cons,bind,Option.bind] at hc
    cases h1 : compRes P r with
    | none => rw [h1] at hc; cases hc
    | some q =>
      rw [h1] at hc
      simp only at hc
      cases h2 : l.mapM (compRes P) with
      | none => rw [h2] at hc; cases hc
      | some qs =>
        rw [h2] at hc
        cases hc
        simp only [resV] at he
        split at he
        · cases he
        · rename_i v hv
          split at he
          · rename_i vs0 hvs
            cases he
            obtain ⟨vs',h3,h4⟩ := ih h2 hvs
            have key : ∃ v',VR ι v v' ∧ (resOne tmps r).run P w = .ok v' w := by
              cases r with
              | tmp t =>
                simp only [compRes,Option.some.injEq] at h1
                subst h1
                cases hv
                exact ⟨_,hT t,rfl⟩
              | cell t ty =>
                simp only [compRes] at h1
                split at h1
                · rename_i ag n hag hn
                  cases h1
                  have ht := hT t
                  simp only at hv
                  split at hv
                  · rename_i b o e1
                    rw [e1] at ht
                    obtain ⟨r,c,hr,hb⟩ := ht.ptrI
                    have hld : ∀ x,(Instr.loadAt ty (.pointer (some ⟨r,o,none⟩))).run P w = .ok x w → (resOne tmps (.cell t ty)).run P w = .ok x w := by
                      intro x hx
                      simp only [resOne,hr]
                      exact hx
                    split at hv
                    · rename_i cs hcs
                      cases ag with
                      | true =>
                        simp only at hv
                        split at hv
                        · rename_i rr hrr
                          cases hv
                          obtain ⟨v',hvr,hrun⟩ := loadN_ok hW ht hcs hrr hag hn
                          rw [hr] at hrun
                          exact ⟨v',hvr,hld _ hrun⟩
                        · cases hv
                      | false =>
                        simp only at hv
                        obtain ⟨v',hvr,hrun⟩ := load1_ok hW ht hcs hv hag
                        rw [hr] at hrun
                        exact ⟨v',hvr,hld _ hrun⟩
                    · cases hv
                  · cases hv
                · cases h1
            obtain ⟨v',h5,h6⟩ := key
            refine ⟨v' :: vs',.cons h5 h3,?_⟩
            simp only [List.mapM_cons,Sem.run_bind,h6,Result.andThen_ok]
            rw [h4]
            rfl
          · cases he
theorem outV_ok {vs vs' : List Value} (h : LR ι vs vs') : VR ι (outV vs) (if h : (⟨vs'⟩ : Array Value).size = 1 then (⟨vs'⟩ : Array Value)[0] else .tuple ⟨vs'⟩) := by
  cases h with
  | nil => exact .tup .nil
  | cons hv hl =>
    cases hl with
    | nil => exact hv
    | cons hv2 hl2 => exact .tup (.cons hv (.cons hv2 hl2))
theorem results_ok (hW : WR P ι s w) {tmps : Array Value} (hT : TR ι T tmps) {fn : Func} {rs : List IRes} {vs : List Value} (hc : fn.results.toList.mapM (compRes P) = some rs) (he : resV T s.h rs = some vs) : ∃ v',VR ι (outV vs) v' ∧ (results fn tmps).run P w = .ok v' w := by
  obtain ⟨vs',h1,h2⟩ := resV_ok hW rfl hT hc he
  refine ⟨_,outV_ok h1,?_⟩
  rw [results_eq]
  simp only [Sem.run_bind,Array.mapM_eq_mapM_toList,Sem.run_map,h2]
  rfl
end
end Go.Sim
