import Derived.Test.YtkjgachpmebipaiGreatDoorSimW
/- The same reckoner, told by recursors alone: so the kernel goes through it quickly. -/
namespace Go.Sim.K
set_option linter.all false
open Go Go.Sim
variable [Rho] [Asm] [SymOK]
noncomputable section

theorem orec {α β : Type} (n : β) (f : α → β) (o : Option α) : (Option.rec n f o : β) = match o with
    | none => n
    | some a => f a := by cases o <;> rfl

def tget (T : Tm) (t : Nat) : Value := Option.rec (.tuple ⟨[]⟩) (fun v => v) (Tr.get T t)
theorem tget_eq : tget = Sim.tget := by
  funext T t
  unfold tget Sim.tget
  cases T.get t <;> rfl
def oev (T : Tm) (x : Opd) : Value := Opd.rec (tget T) (fun v => v) x
theorem oev_eq : oev = Sim.oev := by
  funext T x
  cases x
  · exact congrFun (congrFun tget_eq T) _
  · rfl
def kn (k : IntKind) : Nat := IntKind.rec (nat_lit 0) (nat_lit 1) (nat_lit 2) (nat_lit 3) (nat_lit 4) (nat_lit 5) (nat_lit 6) (nat_lit 7) k
def kindB (k l : IntKind) : Bool := Nat.beq (kn k) (kn l)
theorem kindB_eq : kindB = Sim.kindB := by funext k l; cases k <;> cases l <;> rfl
def ltI (x y : Int) : Bool := Int.rec (fun a => Int.rec (fun b => Nat.blt a b) (fun _ => false) y) (fun a => Int.rec (fun _ => true) (fun b => Nat.blt b a) y) x
theorem ltI_eq : ltI = Sim.ltI := by funext x y; cases x <;> cases y <;> rfl
def eqI (x y : Int) : Bool := Int.rec (fun a => Int.rec (fun b => Nat.beq a b) (fun _ => false) y) (fun a => Int.rec (fun _ => false) (fun b => Nat.beq a b) y) x
theorem eqI_eq : eqI = Sim.eqI := by funext x y; cases x <;> cases y <;> rfl
def fits (x : Int) : Bool := Int.rec (fun a => Nat.blt a (nat_lit 9223372036854775808)) (fun a => Nat.blt a (nat_lit 9223372036854775808)) x
theorem fits_eq : fits = Sim.fits := by funext x; cases x <;> rfl
def wr64 (n : Int) : Int := Bool.rec (IntKind.wrap .i64 n) n (fits n)
def wrapF (k : IntKind) (n : Int) : Int := IntKind.rec (motive := fun _ => Int → Int) (IntKind.wrap .i8) (IntKind.wrap .i16) (IntKind.wrap .i32) wr64 (IntKind.wrap .u8) (IntKind.wrap .u16) (IntKind.wrap .u32) (IntKind.wrap .u64) k n
theorem wrapF_eq : wrapF = Sim.wrapF := by
  funext k n
  cases k <;> try rfl
  show (Bool.rec (IntKind.wrap .i64 n) n (fits n) : Int) = _
  unfold Sim.wrapF
  rw [fits_eq]
  simp only
  cases Sim.fits n <;> rfl
def inv (b : Bool) : Bool := Bool.rec true false b
theorem inv_eq (b : Bool) : inv b = !b := by cases b <;> rfl
def b_add (k : IntKind) (a b : Int) : Option Value := some (.int k (wrapF k (Int.add a b)))
def b_sub (k : IntKind) (a b : Int) : Option Value := some (.int k (wrapF k (Int.sub a b)))
def b_mul (k : IntKind) (a b : Int) : Option Value := some (.int k (wrapF k (Int.mul a b)))
def b_quo (k : IntKind) (a b : Int) : Option Value := Bool.rec (some (.int k (wrapF k (Int.tdiv a b)))) none (eqI b (.ofNat (nat_lit 0)))
def b_rem (k : IntKind) (a b : Int) : Option Value := Bool.rec (some (.int k (Int.tmod a b))) none (eqI b (.ofNat (nat_lit 0)))
def b_no (_ : IntKind) (_ _ : Int) : Option Value := none
def b_eql (_ : IntKind) (a b : Int) : Option Value := some (.bool (eqI a b))
def b_neq (_ : IntKind) (a b : Int) : Option Value := some (.bool (inv (eqI a b)))
def b_lss (_ : IntKind) (a b : Int) : Option Value := some (.bool (ltI a b))
def b_leq (_ : IntKind) (a b : Int) : Option Value := some (.bool (inv (ltI b a)))
def b_gtr (_ : IntKind) (a b : Int) : Option Value := some (.bool (ltI b a))
def b_geq (_ : IntKind) (a b : Int) : Option Value := some (.bool (inv (ltI a b)))
def b_and (k : IntKind) (a b : Int) : Option Value := some (.int k (wrapF k (.ofNat (Nat.land (toU k a) (toU k b)))))
def b_or (k : IntKind) (a b : Int) : Option Value := some (.int k (wrapF k (.ofNat (Nat.lor (toU k a) (toU k b)))))
def b_xor (k : IntKind) (a b : Int) : Option Value := some (.int k (wrapF k (.ofNat (Nat.xor (toU k a) (toU k b)))))
def b_andNot (k : IntKind) (a b : Int) : Option Value := some (.int k (wrapF k (.ofNat (Nat.land (toU k a) (Nat.sub (Nat.sub (twoK k) 1) (toU k b))))))
def binI' (op : BinOp) : IntKind → Int → Int → Option Value := BinOp.rec b_add b_sub b_mul b_quo b_rem b_and b_or b_xor b_no b_no b_andNot b_eql b_neq b_lss b_leq b_gtr b_geq op
theorem binI'_eq : binI' = Sim.binI := by
  funext op k a b
  cases op <;> try rfl
  · show b_add k a b = _; unfold b_add; rw [wrapF_eq]; rfl
  · show b_sub k a b = _; unfold b_sub; rw [wrapF_eq]; rfl
  · show b_mul k a b = _; unfold b_mul; rw [wrapF_eq]; rfl
  · show b_quo k a b = _
    unfold b_quo Sim.binI
    rw [wrapF_eq, eqI_eq]
    show (Bool.rec _ _ (Sim.eqI b 0) : Option Value) = _
    simp only
    cases Sim.eqI b 0 <;> rfl
  · show b_rem k a b = _
    unfold b_rem Sim.binI
    rw [eqI_eq]
    show (Bool.rec _ _ (Sim.eqI b 0) : Option Value) = _
    simp only
    cases Sim.eqI b 0 <;> rfl
  · show b_and k a b = _; unfold b_and; rw [wrapF_eq]; rfl
  · show b_or k a b = _; unfold b_or; rw [wrapF_eq]; rfl
  · show b_xor k a b = _; unfold b_xor; rw [wrapF_eq]; rfl
  · show b_andNot k a b = _; unfold b_andNot; rw [wrapF_eq]; rfl
  · show b_eql k a b = _; unfold b_eql; rw [eqI_eq]; rfl
  · show b_neq k a b = _; unfold b_neq; rw [eqI_eq, inv_eq]; rfl
  · show b_lss k a b = _; unfold b_lss; rw [ltI_eq]; rfl
  · show b_leq k a b = _; unfold b_leq; rw [ltI_eq, inv_eq]; rfl
  · show b_gtr k a b = _; unfold b_gtr; rw [ltI_eq]; rfl
  · show b_geq k a b = _; unfold b_geq; rw [ltI_eq, inv_eq]; rfl
def p_bin (op : BinOp) (x y : Opd) (T : Tm) : Option Value := vInt (oev T x) (fun k a => vInt (oev T y) (fun l b => Bool.rec none (binI' op k a b) (kindB k l)) (p_str op (oev T x) (oev T y))) (p_str op (oev T x) (oev T y))
theorem p_bin_eq : p_bin = Sim.p_bin := by
  funext op x y T
  unfold p_bin Sim.p_bin
  rw [oev_eq, kindB_eq, binI'_eq]
  generalize Sim.oev T x = v
  generalize Sim.oev T y = u
  cases v <;> try rfl
  cases u <;> try rfl
  rename_i k a l b
  show (Bool.rec none (Sim.binI op k a b) (Sim.kindB k l) : Option Value) = _
  simp only
  cases Sim.kindB k l <;> rfl
def p_fad (off : Nat) (x : Opd) (T : Tm) : Option Value := vPtr (oev T x) (fun b o => some (.pointer (some ⟨b, Nat.add o off, none⟩))) none
theorem p_fad_eq : p_fad = Sim.p_fad := by
  funext off x T
  unfold p_fad Sim.p_fad
  rw [oev_eq]
  generalize Sim.oev T x = v
  cases v <;> try rfl
  rename_i ad
  cases ad with
  | none => rfl
  | some ad =>
    obtain ⟨b, o, sp⟩ := ad
    cases sp with
    | some _ => rfl
    | none =>
      rfl
def place (v : Value) (k : Nat → Option Value) : Option Value := vInt v (fun _ n => Int.rec (fun n => k n) (fun _ => none) n) none
theorem place_eq (v : Value) (k : Nat → Option Value) : place v k = (Sim.place v).bind k := by
  cases v <;> try rfl
  rename_i kd n
  cases n <;> rfl
def p_iadS (size : Nat) (x i : Opd) (T : Tm) : Option Value := vSl (oev T x) (fun a n _ => Option.rec none (fun a => Addr.rec (fun b o s => Option.rec (place (oev T i) fun j => Bool.rec none (some (.pointer (some ⟨b, Nat.add o (Nat.mul j size), none⟩))) (Nat.blt j n)) (fun _ => none) s) a) a) none
theorem p_iadS_eq : p_iadS = Sim.p_iadS := by
  funext size x i T
  unfold p_iadS Sim.p_iadS
  rw [oev_eq, vSl_eq]
  generalize Sim.oev T x = v
  cases v <;> try rfl
  rename_i a n k
  cases a with
  | none => rfl
  | some a =>
    obtain ⟨b, o, s⟩ := a
    cases s with
    | some _ => rfl
    | none =>
      show place (Sim.oev T i) _ = _
      rw [place_eq]
      cases Sim.place (Sim.oev T i) with
      | none => rfl
      | some j =>
        show (Bool.rec none _ (Nat.blt j n) : Option Value) = _
        simp only
        cases Nat.blt j n <;> rfl
def p_lenS (x : Opd) (T : Tm) : Option Value := vSl (oev T x) (fun _ n _ => some (.int .i64 (.ofNat n))) none
theorem p_lenS_eq : p_lenS = Sim.p_lenS := by
  funext x T
  unfold p_lenS Sim.p_lenS
  rw [oev_eq, vSl_eq]
  generalize Sim.oev T x = v
  cases v <;> rfl
def p_not (x : Opd) (T : Tm) : Option Value := vBool (oev T x) (fun b => some (.bool (Bool.rec true false b))) (Bool.rec none (some (nd 23 (oev T x) [])) (symBv (oev T x)))
theorem p_not_eq : p_not = Sim.p_not := by
  funext x T
  unfold p_not Sim.p_not
  rw [oev_eq, vBool_eq]
  generalize Sim.oev T x = v
  cases v
  case bool b => cases b <;> rfl
  all_goals (dsimp only; cases symBv _ <;> rfl)
def p_conv (k : IntKind) (x : Opd) (T : Tm) : Option Value := vInt (oev T x) (fun _ a => some (.int k (wrapF k a))) (Option.rec none (fun _ => some (nd 8 (.int k (.ofNat (nat_lit 0))) [oev T x])) (symK (oev T x)))
theorem p_conv_eq : p_conv = Sim.p_conv := by
  funext k x T
  unfold p_conv Sim.p_conv
  rw [oev_eq, vInt_eq, wrapF_eq]
  generalize Sim.oev T x = v
  cases v
  case int => rfl
  all_goals (dsimp only; cases symK _ <;> rfl)
def p_mov (x : Opd) (T : Tm) : Option Value := some (oev T x)
theorem p_mov_eq : p_mov = Sim.p_mov := by
  funext x T
  unfold p_mov Sim.p_mov
  rw [oev_eq]
def p_fld (ag : Bool) (off size : Nat) (x : Opd) (T : Tm) : Option Value := vAgg (oev T x) (fun l => Bool.rec (nth l off) (sub l off size fun r => some (.agg ⟨r⟩)) ag) none
theorem p_fld_eq : p_fld = Sim.p_fld := by
  funext ag off size x T
  unfold p_fld Sim.p_fld
  rw [oev_eq, vAgg_eq]
  generalize Sim.oev T x = v
  cases v <;> try rfl
  rename_i l
  obtain ⟨l⟩ := l
  cases ag
  · show nth l off = _
    rw [nth_eq]
    rfl
  · show sub l off size _ = _
    rw [sub_eqK]
    simp only [partL]
    cases Sim.sub l off size <;> rfl
def p_ext (x : Opd) (i : Nat) (T : Tm) : Option Value := vTup (oev T x) (fun l => nth l i) none
theorem p_ext_eq : p_ext = Sim.p_ext := by
  funext x i T
  unfold p_ext Sim.p_ext
  rw [oev_eq, vTup_eq, nth_eq]
  generalize Sim.oev T x = v
  cases v <;> rfl
def vCells {β : Type} (lo : LO) (f : List Value → β) (e : β) : β := LO.rec (fun c => f c) (fun _ _ _ => e) (fun _ _ _ _ _ _ => e) (fun _ => e) (fun _ => e) (fun _ _ => e) lo
theorem vCells_eq {β : Type} (lo : LO) (f : List Value → β) (e : β) : vCells lo f e = match lo with
    | .cells c => f c
    | _ => e := by cases lo <;> rfl
def r_ld1 (a : Opd) (T : Tm) (h : Tr LO) : Option Value := vPtr (oev T a) (fun b o => Option.rec none (fun lo => vCells lo (fun c => nth c o) none) (Tr.get h b)) none
theorem r_ld1_eq : r_ld1 = Sim.r_ld1 := by
  funext a T h
  unfold r_ld1 Sim.r_ld1
  rw [oev_eq, nth_eq]
  generalize Sim.oev T a = v
  cases v <;> try rfl
  rename_i ad
  cases ad with
  | none => rfl
  | some ad =>
    obtain ⟨b, o, sp⟩ := ad
    cases sp with
    | some _ => rfl
    | none =>
      show (Option.rec none _ (Tr.get h b) : Option Value) = _
      simp only
      cases Tr.get h b with
      | none => rfl
      | some lo => cases lo <;> rfl
def r_ldn (n : Nat) (a : Opd) (T : Tm) (h : Tr LO) : Option Value := vPtr (oev T a) (fun b o => Option.rec none (fun lo => vCells lo (fun c => sub c o n fun r => some (.agg ⟨r⟩)) none) (Tr.get h b)) none
theorem r_ldn_eq : r_ldn = Sim.r_ldn := by
  funext n a T h
  unfold r_ldn Sim.r_ldn
  rw [oev_eq]
  generalize Sim.oev T a = v
  cases v <;> try rfl
  rename_i ad
  cases ad with
  | none => rfl
  | some ad =>
    obtain ⟨b, o, sp⟩ := ad
    cases sp with
    | some _ => rfl
    | none =>
      show (Option.rec none _ (Tr.get h b) : Option Value) = _
      simp only
      cases Tr.get h b with
      | none => rfl
      | some lo =>
        cases lo <;> try rfl
        rename_i c
        show sub c o n _ = _
        rw [sub_eqK]
        simp only
        cases Sim.sub c o n <;> rfl
def both (a b : Bool) : Bool := Bool.rec false b a
def w_st {β : Type} (n : Nat) (a x : Opd) (T : Tm) (s : St) (k : Value → St → Option β) : Option β := vPtr (oev T a) (fun b o => Option.rec none (fun lo => vCells lo (fun c => force (oev T x) fun v => (fun cs => Bool.rec none (over c o cs fun c => St.putK s b (some (.cells c)) fun s => k (.tuple ⟨.nil⟩) s) (both (Nat.beq (len cs) n) (ones cs))) (cellsOf v)) none) (Tr.get s.h b)) none
theorem w_st_eq {β : Type} : w_st (β := β) = Sim.w_st := by
  funext n a x T s k
  unfold w_st Sim.w_st
  rw [oev_eq]
  generalize Sim.oev T a = v
  cases v <;> try rfl
  rename_i ad
  cases ad with
  | none => rfl
  | some ad =>
    obtain ⟨b, o, sp⟩ := ad
    cases sp with
    | some _ => rfl
    | none =>
      show (Option.rec none _ (Tr.get s.h b) : Option β) = _
      simp only
      cases Tr.get s.h b with
      | none => rfl
      | some lo =>
        cases lo <;> try rfl
        rename_i c
        show force (Sim.oev T x) _ = _
        rw [force_eq, cellsOf_eq, len_eqK, ones_eq]
        simp only [over_eq]
        generalize Sim.cellsOf (Sim.oev T x) = cs
        cases Nat.beq (Sim.len cs) n <;> cases Sim.ones cs <;> try rfl
        show (Sim.over c o cs).bind _ = _
        cases Sim.over c o cs <;> rfl
def evPd : POp → Tm → Option Value := POp.rec p_mov p_pick p_build p_bin p_eqB p_eqG p_isNil p_neg p_not p_conv p_mki p_mkf p_fld p_idxA p_idxS p_ext p_fad p_iadS p_iadA p_slcS p_slcT p_slcA p_lenS p_lenT p_lenC p_max p_min p_nilc p_shf
theorem evPd_eq : evPd = Sim.evPd := by
  funext o
  cases o <;> first
    | rfl
    | exact congrFun p_mov_eq _
    | exact congrFun (congrFun (congrFun p_bin_eq _) _) _
    | exact congrFun p_not_eq _
    | exact congrFun (congrFun p_conv_eq _) _
    | exact congrFun (congrFun (congrFun (congrFun p_fld_eq _) _) _) _
    | exact congrFun (congrFun p_ext_eq _) _
    | exact congrFun (congrFun p_fad_eq _) _
    | exact congrFun (congrFun (congrFun p_iadS_eq _) _) _
    | exact congrFun p_lenS_eq _
def evRd : ROp → Tm → Tr LO → Option Value := ROp.rec r_ld1 r_ldn r_lkp r_lenM
theorem evRd_eq : evRd = Sim.evRd := by
  funext o
  cases o <;> first
    | rfl
    | exact congrFun r_ld1_eq _
    | exact congrFun (congrFun r_ldn_eq _) _
def evAd : AOp → Tm → Option (LO × (Nat → Value)) := AOp.rec a_new a_box a_bsl a_mks a_mkm a_rgs
theorem evAd_eq : evAd = Sim.evAd := by funext o; cases o <;> rfl
section
variable {β : Type}
def w_app' (size : Nat) (_ : List Value) : Opd → Opd → Tm → St → (Value → St → Option β) → Option β := w_app size
def evWd : WOp → Tm → St → (Value → St → Option β) → Option β := WOp.rec w_st w_mup w_app' w_cpy w_clr w_nxt
theorem evWd_eq : evWd (β := β) = Sim.evWd := by
  funext o
  cases o <;> first
    | rfl
    | exact congrFun (congrFun (congrFun w_st_eq _) _) _
variable (call : Value → List Value → St → Option (Value × St))
def i_p (op : POp) (T : Tm) (s : St) (k : Value → St → Option β) : Option β := Option.rec none (fun v => k v s) (evPd op T)
def i_r (op : ROp) (T : Tm) (s : St) (k : Value → St → Option β) : Option β := Option.rec none (fun v => k v s) (evRd op T s.h)
def i_a (op : AOp) (T : Tm) (s : St) (k : Value → St → Option β) : Option β := Bool.rec none (Option.rec none (fun p => Prod.rec (fun lo f => St.newK s lo fun s' => k (f s.n) s') p) (evAd op T)) (Nat.blt s.n limH)
def i_w (op : WOp) (T : Tm) (s : St) (k : Value → St → Option β) : Option β := evWd op T s k
def i_call (f : Opd) (args : List Opd) (T : Tm) (s : St) (k : Value → St → Option β) : Option β := Option.rec none (fun p => Prod.rec (fun v s => k v s) p) (call (oev T f) (oevs T args) s)
theorem i_p_eq : i_p (β := β) = Sim.i_p := by
  funext op T s k
  unfold i_p Sim.i_p
  rw [evPd_eq, show evP T op = Sim.evPd op T from rfl]
  cases Sim.evPd op T <;> rfl
theorem i_r_eq : i_r (β := β) = Sim.i_r := by
  funext op T s k
  unfold i_r Sim.i_r
  rw [evRd_eq, show evR T s.h op = Sim.evRd op T s.h from rfl]
  cases Sim.evRd op T s.h <;> rfl
theorem i_a_eq : i_a (β := β) = Sim.i_a := by
  funext op T s k
  unfold i_a Sim.i_a
  rw [evAd_eq, show evA T op = Sim.evAd op T from rfl]
  cases Nat.blt s.n limH
  · rfl
  · cases Sim.evAd op T <;> rfl
theorem i_w_eq : i_w (β := β) = Sim.i_w := by
  funext op T s k
  unfold i_w Sim.i_w
  rw [evWd_eq]
  rfl
theorem i_call_eq : i_call (β := β) call = Sim.i_call call := by
  funext f args T s k
  unfold i_call Sim.i_call
  rw [oev_eq]
  cases call (Sim.oev T f) (oevs T args) s <;> rfl
def evI (op : IOp) : Tm → St → (Value → St → Option β) → Option β := IOp.rec i_p i_r i_a i_w (i_call call) op
theorem evI_eq (o : Ins) : evI (β := β) call o.op = Sim.evI call o := by
  funext T s k
  unfold Sim.evI
  cases o.op
  · exact congrFun (congrFun (congrFun (congrFun i_p_eq _) T) s) k
  · exact congrFun (congrFun (congrFun (congrFun i_r_eq _) T) s) k
  · exact congrFun (congrFun (congrFun (congrFun i_a_eq _) T) s) k
  · exact congrFun (congrFun (congrFun (congrFun i_w_eq _) T) s) k
  · exact congrFun (congrFun (congrFun (congrFun (congrFun (i_call_eq call) _) _) T) s) k
def putD (d : Option Nat) (T : Tm) (v : Value) (k : Tm → β) : β := Option.rec (k T) (fun d => Tr.setK DT T d (some v) k) d
theorem putD_eq : putD (β := β) = Sim.putD := by
  funext d T v k
  cases d <;> rfl
def wantedB (b : Bool) (v : Value) : Bool := match v with
  | .bool c => Bool.rec (Bool.rec true false c) (Bool.rec false true c) b
  | _ => false
def wanted (T : Tm) (g : Option (Nat × Bool)) : Bool := Option.rec true (fun p => Prod.rec (fun t b => wantedB b (tget T t)) p) g
theorem wanted_eq : wanted = Sim.wanted := by
  funext T g
  cases g with
  | none => rfl
  | some p =>
    obtain ⟨t, b⟩ := p
    show wantedB b (tget T t) = Sim.wanted T (some (t, b))
    rw [tget_eq]
    unfold wantedB Sim.wanted
    simp only
    generalize Sim.tget T t = v
    cases v <;> try rfl
    rename_i c
    cases b <;> cases c <;> rfl
def evOps (l : List Ins) : Tm → St → (Tm → St → Option β) → Option β :=
  List.rec (fun T s k => k T s) (fun o _ ih T s k => Ins.rec (fun dst op grd => Bool.rec (Bool.rec none (putD dst T (.tuple ⟨[]⟩) fun T => ih T s k) (gOK T grd)) (evI call op T s fun v s => force v fun v => putD dst T v fun T => ih T s k) (wanted T grd)) o) l
theorem evOps_eq : ∀ (l : List Ins), evOps (β := β) call l = Sim.evOps call l
  | [] => rfl
  | o :: l => by
    funext T s k
    have ih := evOps_eq l
    obtain ⟨dst, op, grd⟩ := o
    show (Bool.rec (Bool.rec none (putD dst T (.tuple ⟨[]⟩) fun T => evOps call l T s k) (gOK T grd)) (evI call op T s fun v s => force v fun v => putD dst T v fun T => evOps call l T s k) (wanted T grd) : Option β) = _
    simp only [force_eq]
    rw [ih, putD_eq, wanted_eq, show evI (β := β) call op = Sim.evI call ⟨dst, op, grd⟩ from evI_eq call ⟨dst, op, grd⟩]
    simp only [Sim.evOps, Sim.force_eq]
    cases Sim.wanted T grd <;> first | rfl | (cases gOK T grd <;> rfl)
end

section
variable (call : Value → List Value → St → Option (Value × St)) (code : IC → Option Nat → List Nat → Tm → St → Option Cf)
def endO (rnd : Option Nat) (ds : List Nat) (T : Tm) (s : St) : Option Cf := some ⟨.norm, T, s, ds⟩
def c_skip (rnd : Option Nat) (ds : List Nat) (T : Tm) (s : St) : Option Cf := some ⟨.norm, T, s, ds⟩
def c_ops (l : List Ins) (_rnd : Option Nat) (ds : List Nat) (T : Tm) (s : St) : Option Cf := evOps call l T s fun T s => some ⟨.norm, T, s, ds⟩
def c_draw (l : List DI) (_rnd : Option Nat) (ds : List Nat) (T : Tm) (s : St) : Option Cf := evDraw call l T s fun T s => some ⟨.norm, T, s, ds⟩
def c_seq (a b : IC) (_ _ : Option Nat → List Nat → Tm → St → Option Cf) (rnd : Option Nat) (ds : List Nat) (T : Tm) (s : St) : Option Cf :=
  Option.rec none (fun c => Cf.rec (fun o T s ds => Out.rec (code b rnd ds T s) (some ⟨.ret, T, s, ds⟩) (fun i => some ⟨.exit i, T, s, ds⟩) (fun i => some ⟨.goto i, T, s, ds⟩) o) c) (code a rnd ds T s)
def boolV {β : Type} (v : Value) (t f : Option β) : Option β := match v with
  | .bool true => t
  | .bool false => f
  | _ => none
def c_cond (x : Opd) (a b : IC) (_ _ : Option Nat → List Nat → Tm → St → Option Cf) (rnd : Option Nat) (ds : List Nat) (T : Tm) (s : St) : Option Cf := boolV (oev T x) (code a rnd ds T s) (code b rnd ds T s)
def c_block (id : Nat) (a : IC) (_ : Option Nat → List Nat → Tm → St → Option Cf) (rnd : Option Nat) (ds : List Nat) (T : Tm) (s : St) : Option Cf :=
  Option.rec none (fun c => Cf.rec (fun o T s ds => Out.rec (some ⟨.norm, T, s, ds⟩) (some ⟨.ret, T, s, ds⟩) (fun m => Bool.rec (some ⟨.exit m, T, s, ds⟩) (some ⟨.norm, T, s, ds⟩) (Nat.beq m id)) (fun i => some ⟨.goto i, T, s, ds⟩) o) c) (code a rnd ds T s)
def c_loop (a : IC) (_ : Option Nat → List Nat → Tm → St → Option Cf) (rnd : Option Nat) (ds : List Nat) (T : Tm) (s : St) : Option Cf :=
  Option.rec none (fun c => Cf.rec (fun o T s ds => Out.rec (code (.loop a) rnd ds T s) (some ⟨.ret, T, s, ds⟩) (fun i => some ⟨.exit i, T, s, ds⟩) (fun i => some ⟨.goto i, T, s, ds⟩) o) c) (code a rnd ds T s)
def c_rng (f : Opd) (ps : List Nat) (asg body : IC) (_ _ : Option Nat → List Nat → Tm → St → Option Cf) (rnd : Option Nat) (ds : List Nat) (T : Tm) (s : St) : Option Cf := codeB call code (.rng f ps asg body) rnd ds T s
def c_exit (id : Nat) (_rnd : Option Nat) (ds : List Nat) (T : Tm) (s : St) : Option Cf := some ⟨.exit id, T, s, ds⟩
def c_scope (a : IC) (_ : Option Nat → List Nat → Tm → St → Option Cf) (rnd : Option Nat) (ds : List Nat) (T : Tm) (s : St) : Option Cf := codeB call code (.scope a) rnd ds T s
def c_goto (id : Nat) (_rnd : Option Nat) (ds : List Nat) (T : Tm) (s : St) : Option Cf := some ⟨.goto id, T, s, ds⟩
def c_ret (_rnd : Option Nat) (ds : List Nat) (T : Tm) (s : St) : Option Cf := some ⟨.ret, T, s, ds⟩
def codeF (c : IC) : Option Nat → List Nat → Tm → St → Option Cf :=
  IC.rec c_skip (c_ops call) (c_draw call) (c_seq code) (c_cond code) (c_block code) (c_loop code) (c_rng call code) c_exit (c_scope call code) c_goto c_ret c
theorem codeF_eq : codeF call code = codeB call code := by
  funext c rnd ds T s
  cases c
  case ops l =>
    show evOps call l T s _ = _
    rw [evOps_eq]
    rfl
  case seq a b =>
    show c_seq code a b (codeF call code a) (codeF call code b) rnd ds T s = _
    simp only [c_seq, codeB]
    cases code a rnd ds T s with
    | none => rfl
    | some c => obtain ⟨o, T, s, ds⟩ := c; cases o <;> rfl
  case cond x a b =>
    show boolV (oev T x) (code a rnd ds T s) (code b rnd ds T s) = _
    rw [oev_eq]
    simp only [codeB, boolV]
    generalize Sim.oev T x = v
    cases v <;> rfl
  case block id a =>
    show c_block code id a (codeF call code a) rnd ds T s = _
    simp only [c_block, codeB]
    cases code a rnd ds T s with
    | none => rfl
    | some c =>
      obtain ⟨o, T, s, ds⟩ := c
      cases o <;> try rfl
      rename_i m
      show (Bool.rec (some ⟨.exit m, T, s, ds⟩) (some ⟨.norm, T, s, ds⟩) (Nat.beq m id) : Option Cf) = _
      simp only
      cases Nat.beq m id <;> rfl
  case loop a =>
    show c_loop code a (codeF call code a) rnd ds T s = _
    simp only [c_loop, codeB]
    cases code a rnd ds T s with
    | none => rfl
    | some c => obtain ⟨o, T, s, ds⟩ := c; cases o <;> rfl
  all_goals rfl
end
def evCode (tab : Tr FI) (n : Nat) : IC → Option Nat → List Nat → Tm → St → Option Cf :=
  Nat.rec (fun _ _ _ _ _ => none) (fun _ ih => codeF (callB tab ih) ih) n
theorem evCode_eq (tab : Tr FI) : ∀ n, evCode tab n = Sim.evCode tab n
  | 0 => rfl
  | n + 1 => by
    show codeF (callB tab (evCode tab n)) (evCode tab n) = _
    rw [evCode_eq tab n, codeF_eq]
    rfl
def evCall (tab : Tr FI) (n : Nat) : Value → List Value → St → Option (Value × St) := callB tab (evCode tab n)
theorem evCall_eq (tab : Tr FI) (n : Nat) : evCall tab n = Sim.evCall tab n := by
  unfold evCall Sim.evCall
  rw [evCode_eq]
end
end Go.Sim.K
