/- Part 28 of the proof: SimV, SimX, SimY, SimZ, SimZ2. -/
import Derived.Test.YtadmcafbffjjbaaE27
namespace Go.Sim.K
set_option linter.all false
open Go Go.Sim
variable [Rho] [Asm] [SymOK]
noncomputable section

def tget (T : Tm) (t : Nat) : Value := Option.rec (.tuple ⟨[]⟩) (fun v => v) (Tr.get T t)
theorem tget_eq : tget = Sim.tget := by
  funext T t
  unfold tget Sim.tget
  cases T.get t <;> rfl
def oev (T : Tm) (x : Opd) : Value := Opd.rec (tget T) (fun v => v) x
theorem oev_eq : oev = Sim.oev := by
  funext T x
  cases x
  · exact congrFun (congrFun tget_eq T) _
  · rfl
def kn (k : IntKind) : Nat := IntKind.rec (nat_lit 0) (nat_lit 1) (nat_lit 2) (nat_lit 3) (nat_lit 4) (nat_lit 5) (nat_lit 6) (nat_lit 7) k
def kindB (k l : IntKind) : Bool := Nat.beq (kn k) (kn l)
theorem kindB_eq : kindB = Sim.kindB := by funext k l; cases k <;> cases l <;> rfl
def ltI (x y : Int) : Bool := Int.rec (fun a => Int.rec (fun b => Nat.blt a b) (fun _ => false) y) (fun a => Int.rec (fun _ => true) (fun b => Nat.blt b a) y) x
theorem ltI_eq : ltI = Sim.ltI := by funext x y; cases x <;> cases y <;> rfl
def eqI (x y : Int) : Bool := Int.rec (fun a => Int.rec (fun b => Nat.beq a b) (fun _ => false) y) (fun a => Int.rec (fun _ => false) (fun b => Nat.beq a b) y) x
theorem eqI_eq : eqI = Sim.eqI := by funext x y; cases x <;> cases y <;> rfl
def fits (x : Int) : Bool := Int.rec (fun a => Nat.blt a (nat_lit 9223372036854775808)) (fun a => Nat.blt a (nat_lit 9223372036854775808)) x
theorem fits_eq : fits = Sim.fits := by funext x; cases x <;> rfl
def wr64 (n : Int) : Int := Bool.rec (IntKind.wrap .i64 n) n (fits n)
def wrapF (k : IntKind) (n : Int) : Int := IntKind.rec (motive := fun _ => Int → Int) (IntKind.wrap .i8) (IntKind.wrap .i16) (IntKind.wrap .i32) wr64 (IntKind.wrap .u8) (IntKind.wrap .u16) (IntKind.wrap .u32) (IntKind.wrap .u64) k n
theorem wrapF_eq : wrapF = Sim.wrapF := by
  funext k n
  cases k <;> try rfl
  show (Bool.rec (IntKind.wrap .i64 n) n (fits n) : Int) = _
  unfold Sim.wrapF
  rw [fits_eq]
  simp only
  cases Sim.fits n <;> rfl
def inv (b : Bool) : Bool := Bool.rec true false b
theorem inv_eq (b : Bool) : inv b = !b := by cases b <;> rfl
def b_add (k : IntKind) (a b : Int) : Option Value := some (.int k (wrapF k (Int.add a b)))
def b_sub (k : IntKind) (a b : Int) : Option Value := some (.int k (wrapF k (Int.sub a b)))
def b_mul (k : IntKind) (a b : Int) : Option Value := some (.int k (wrapF k (Int.mul a b)))
def b_quo (k : IntKind) (a b : Int) : Option Value := Bool.rec (some (.int k (wrapF k (Int.tdiv a b)))) none (eqI b (.ofNat (nat_lit 0)))
def b_rem (k : IntKind) (a b : Int) : Option Value := Bool.rec (some (.int k (Int.tmod a b))) none (eqI b (.ofNat (nat_lit 0)))
def b_no (_ : IntKind) (_ _ : Int) : Option Value := none
def b_eql (_ : IntKind) (a b : Int) : Option Value := some (.bool (eqI a b))
def b_neq (_ : IntKind) (a b : Int) : Option Value := some (.bool (inv (eqI a b)))
def b_lss (_ : IntKind) (a b : Int) : Option Value := some (.bool (ltI a b))
def b_leq (_ : IntKind) (a b : Int) : Option Value := some (.bool (inv (ltI b a)))
def b_gtr (_ : IntKind) (a b : Int) : Option Value := some (.bool (ltI b a))
def b_geq (_ : IntKind) (a b : Int) : Option Value := some (.bool (inv (ltI a b)))
def binI' (op : BinOp) : IntKind → Int → Int → Option Value := BinOp.rec b_add b_sub b_mul b_quo b_rem b_no b_no b_no b_no b_no b_no b_eql b_neq b_lss b_leq b_gtr b_geq op
theorem binI'_eq : binI' = Sim.binI := by
  funext op k a b
  cases op <;> try rfl
  · show b_add k a b = _; unfold b_add; rw [wrapF_eq]; rfl
  · show b_sub k a b = _; unfold b_sub; rw [wrapF_eq]; rfl
  · show b_mul k a b = _; unfold b_mul; rw [wrapF_eq]; rfl
  · show b_quo k a b = _
    unfold b_quo Sim.binI
    rw [wrapF_eq,eqI_eq]
    show (Bool.rec _ _ (Sim.eqI b 0) : Option Value) = _
    simp only
    cases Sim.eqI b 0 <;> rfl
  · show b_rem k a b = _
    unfold b_rem Sim.binI
    rw [eqI_eq]
    show (Bool.rec _ _ (Sim.eqI b 0) : Option Value) = _
    simp only
    cases Sim.eqI b 0 <;> rfl
  · show b_eql k a b = _; unfold b_eql; rw [eqI_eq]; rfl
  · show b_neq k a b = _; unfold b_neq; rw [eqI_eq,inv_eq]; rfl
  · show b_lss k a b = _; unfold b_lss; rw [ltI_eq]; rfl
  · show b_leq k a b = _; unfold b_leq; rw [ltI_eq,inv_eq]; rfl
  · show b_gtr k a b = _; unfold b_gtr; rw [ltI_eq]; rfl
  · show b_geq k a b = _; unfold b_geq; rw [ltI_eq,inv_eq]; rfl
def p_bin (op : BinOp) (x y : Opd) (T : Tm) : Option Value := vInt (oev T x) (fun k a => vInt (oev T y) (fun l b => Bool.rec none (binI' op k a b) (kindB k l)) (p_str op (oev T x) (oev T y))) (p_str op (oev T x) (oev T y))
theorem p_bin_eq : p_bin = Sim.p_bin := by
  funext op x y T
  unfold p_bin Sim.p_bin
  rw [oev_eq,kindB_eq,binI'_eq]
  generalize Sim.oev T x = v
  generalize Sim.oev T y = u
  cases v <;> try rfl
  cases u <;> try rfl
  rename_i k a l b
  show (Bool.rec none (Sim.binI op k a b) (Sim.kindB k l) : Option Value) = _
  simp only
  cases Sim.kindB k l <;> rfl
def p_fad (off : Nat) (x : Opd) (T : Tm) : Option Value := vPtr (oev T x) (fun b o => some (.pointer (some ⟨b,Nat.add o off,none⟩))) none
theorem p_fad_eq : p_fad = Sim.p_fad := by
  funext off x T
  unfold p_fad Sim.p_fad
  rw [oev_eq]
  generalize Sim.oev T x = v
  cases v <;> try rfl
  rename_i ad
  cases ad with
  | none => rfl
  | some ad =>
    obtain ⟨b,o,sp⟩ := ad
    cases sp with
    | some _ => rfl
    | none =>
      rfl
def place (v : Value) (k : Nat → Option Value) : Option Value := vInt v (fun _ n => Int.rec (fun n => k n) (fun _ => none) n) none
theorem place_eq (v : Value) (k : Nat → Option Value) : place v k = (Sim.place v).bind k := by
  cases v <;> try rfl
  rename_i kd n
  cases n <;> rfl
def p_iadS (size : Nat) (x i : Opd) (T : Tm) : Option Value := vSl (oev T x) (fun a n _ => Option.rec none (fun a => Addr.rec (fun b o s => Option.rec (place (oev T i) fun j => Bool.rec none (some (.pointer (some ⟨b,Nat.add o (Nat.mul j size),none⟩))) (Nat.blt j n)) (fun _ => none) s) a) a) none
theorem p_iadS_eq : p_iadS = Sim.p_iadS := by
  funext size x i T
  unfold p_iadS Sim.p_iadS
  rw [oev_eq,vSl_eq]
  generalize Sim.oev T x = v
  cases v <;> try rfl
  rename_i a n k
  cases a with
  | none => rfl
  | some a =>
    obtain ⟨b,o,s⟩ := a
    cases s with
    | some _ => rfl
    | none =>
      show place (Sim.oev T i) _ = _
      rw [place_eq]
      cases Sim.place (Sim.oev T i) with
      | none => rfl
      | some j =>
        show (Bool.rec none _ (Nat.blt j n) : Option Value) = _
        simp only
        cases Nat.blt j n <;> rfl
def p_lenS (x : Opd) (T : Tm) : Option Value := vSl (oev T x) (fun _ n _ => some (.int .i64 (.ofNat n))) none
theorem p_lenS_eq : p_lenS = Sim.p_lenS := by
  funext x T
  unfold p_lenS Sim.p_lenS
  rw [oev_eq,vSl_eq]
  generalize Sim.oev T x = v
  cases v <;> rfl
def p_not (x : Opd) (T : Tm) : Option Value := vBool (oev T x) (fun b => some (.bool (Bool.rec true false b))) (Bool.rec none (some (nd 23 (oev T x) [])) (symBv (oev T x)))
theorem p_not_eq : p_not = Sim.p_not := by
  funext x T
  unfold p_not Sim.p_not
  rw [oev_eq,vBool_eq]
  generalize Sim.oev T x = v
  cases v
  case bool b => cases b <;> rfl
  all_goals (dsimp only; cases symBv _ <;> rfl)
def p_conv (k : IntKind) (x : Opd) (T : Tm) : Option Value := vInt (oev T x) (fun _ a => some (.int k (wrapF k a))) (Option.rec none (fun _ => some (nd 8 (.int k (.ofNat (nat_lit 0))) [oev T x])) (symK (oev T x)))
theorem p_conv_eq : p_conv = Sim.p_conv := by
  funext k x T
  unfold p_conv Sim.p_conv
  rw [oev_eq,vInt_eq,wrapF_eq]
  generalize Sim.oev T x = v
  cases v
  case int => rfl
  all_goals (dsimp only; cases symK _ <;> rfl)
def p_mov (x : Opd) (T : Tm) : Option Value := some (oev T x)
theorem p_mov_eq : p_mov = Sim.p_mov := by
  funext x T
  unfold p_mov Sim.p_mov
  rw [oev_eq]
def p_fld (ag : Bool) (off size : Nat) (x : Opd) (T : Tm) : Option Value := vAgg (oev T x) (fun l => Bool.rec (nth l off) (sub l off size fun r => some (.agg ⟨r⟩)) ag) none
theorem p_fld_eq : p_fld = Sim.p_fld := by
  funext ag off size x T
  unfold p_fld Sim.p_fld
  rw [oev_eq,vAgg_eq]
  generalize Sim.oev T x = v
  cases v <;> try rfl
  rename_i l
  obtain ⟨l⟩ := l
  cases ag
  · show nth l off = _
    rw [nth_eq]
    rfl
  · show sub l off size _ = _
    rw [sub_eqK]
    simp only [partL]
    cases Sim.sub l off size <;> rfl
def p_ext (x : Opd) (i : Nat) (T : Tm) : Option Value := vTup (oev T x) (fun l => nth l i) none
theorem p_ext_eq : p_ext = Sim.p_ext := by
  funext x i T
  unfold p_ext Sim.p_ext
  rw [oev_eq,vTup_eq,nth_eq]
  generalize Sim.oev T x = v
  cases v <;> rfl
def vCells {β : Type} (lo : LO) (f : List Value → β) (e : β) : β := LO.rec (fun c => f c) (fun _ _ _ => e) (fun _ _ _ _ _ _ => e) (fun _ => e) (fun _ => e) lo
def r_ld1 (a : Opd) (T : Tm) (h : Tr LO) : Option Value := vPtr (oev T a) (fun b o => Option.rec none (fun lo => vCells lo (fun c => nth c o) none) (Tr.get h b)) none
theorem r_ld1_eq : r_ld1 = Sim.r_ld1 := by
  funext a T h
  unfold r_ld1 Sim.r_ld1
  rw [oev_eq,nth_eq]
  generalize Sim.oev T a = v
  cases v <;> try rfl
  rename_i ad
  cases ad with
  | none => rfl
  | some ad =>
    obtain ⟨b,o,sp⟩ := ad
    cases sp with
    | some _ => rfl
    | none =>
      show (Option.rec none _ (Tr.get h b) : Option Value) = _
      simp only
      cases Tr.get h b with
      | none => rfl
      | some lo => cases lo <;> rfl
def r_ldn (n : Nat) (a : Opd) (T : Tm) (h : Tr LO) : Option Value := vPtr (oev T a) (fun b o => Option.rec none (fun lo => vCells lo (fun c => sub c o n fun r => some (.agg ⟨r⟩)) none) (Tr.get h b)) none
theorem r_ldn_eq : r_ldn = Sim.r_ldn := by
  funext n a T h
  unfold r_ldn Sim.r_ldn
  rw [oev_eq]
  generalize Sim.oev T a = v
  cases v <;> try rfl
  rename_i ad
  cases ad with
  | none => rfl
  | some ad =>
    obtain ⟨b,o,sp⟩ := ad
    cases sp with
    | some _ => rfl
    | none =>
      show (Option.rec none _ (Tr.get h b) : Option Value) = _
      simp only
      cases Tr.get h b with
      | none => rfl
      | some lo =>
        cases lo <;> try rfl
        rename_i c
        show sub c o n _ = _
        rw [sub_eqK]
        simp only
        cases Sim.sub c o n <;> rfl
def both (a b : Bool) : Bool := Bool.rec false b a
def w_st {β : Type} (n : Nat) (a x : Opd) (T : Tm) (s : St) (k : Value → St → Option β) : Option β := vPtr (oev T a) (fun b o => Option.rec none (fun lo => vCells lo (fun c => force (oev T x) fun v => (fun cs => Bool.rec none (over c o cs fun c => St.putK s b (some (.cells c)) fun s => k (.tuple ⟨.nil⟩) s) (both (Nat.beq (len cs) n) (ones cs))) (cellsOf v)) none) (Tr.get s.h b)) none
theorem w_st_eq {β : Type} : w_st (β := β) = Sim.w_st := by
  funext n a x T s k
  unfold w_st Sim.w_st
  rw [oev_eq]
  generalize Sim.oev T a = v
  cases v <;> try rfl
  rename_i ad
  cases ad with
  | none => rfl
  | some ad =>
    obtain ⟨b,o,sp⟩ := ad
    cases sp with
    | some _ => rfl
    | none =>
      show (Option.rec none _ (Tr.get s.h b) : Option β) = _
      simp only
      cases Tr.get s.h b with
      | none => rfl
      | some lo =>
        cases lo <;> try rfl
        rename_i c
        show force (Sim.oev T x) _ = _
        rw [force_eq,cellsOf_eq,len_eqK,ones_eq]
        simp only [over_eq]
        generalize Sim.cellsOf (Sim.oev T x) = cs
        cases Nat.beq (Sim.len cs) n <;> cases Sim.ones cs <;> try rfl
        show (Sim.over c o cs).bind _ = _
        cases Sim.over c o cs <;> rfl
def evPd : POp → Tm → Option Value := POp.rec p_mov p_pick p_build p_bin p_eqB p_eqG p_isNil p_neg p_not p_conv p_mki p_mkf p_fld p_idxA p_idxS p_ext p_fad p_iadS p_iadA p_slcS p_slcT p_slcA p_lenS p_lenT p_lenC p_max p_min p_nilc
theorem evPd_eq : evPd = Sim.evPd := by
  funext o
  cases o <;> first
    | rfl
    | exact congrFun p_mov_eq _
    | exact congrFun (congrFun (congrFun p_bin_eq _) _) _
    | exact congrFun p_not_eq _
    | exact congrFun (congrFun p_conv_eq _) _
    | exact congrFun (congrFun (congrFun (congrFun p_fld_eq _) _) _) _
    | exact congrFun (congrFun p_ext_eq _) _
    | exact congrFun (congrFun p_fad_eq _) _
    | exact congrFun (congrFun (congrFun p_iadS_eq _) _) _
    | exact congrFun p_lenS_eq _
def evRd : ROp → Tm → Tr LO → Option Value := ROp.rec r_ld1 r_ldn r_lkp r_lenM
theorem evRd_eq : evRd = Sim.evRd := by
  funext o
  cases o <;> first
    | rfl
    | exact congrFun r_ld1_eq _
    | exact congrFun (congrFun r_ldn_eq _) _
def evAd : AOp → Tm → Option (LO × (Nat → Value)) := AOp.rec a_new a_box a_bsl a_mks a_mkm
theorem evAd_eq : evAd = Sim.evAd := by funext o; cases o <;> rfl
section
variable {β : Type}
def w_app' (size : Nat) (_ : List Value) : Opd → Opd → Tm → St → (Value → St → Option β) → Option β := w_app size
def evWd : WOp → Tm → St → (Value → St → Option β) → Option β := WOp.rec w_st w_mup w_app'
theorem evWd_eq : evWd (β := β) = Sim.evWd := by
  funext o
  cases o <;> first
    | rfl
    | exact congrFun (congrFun (congrFun w_st_eq _) _) _
variable (call : Value → List Value → St → Option (Value × St))
def i_p (op : POp) (T : Tm) (s : St) (k : Value → St → Option β) : Option β := Option.rec none (fun v => k v s) (evPd op T)
def i_r (op : ROp) (T : Tm) (s : St) (k : Value → St → Option β) : Option β := Option.rec none (fun v => k v s) (evRd op T s.h)
def i_a (op : AOp) (T : Tm) (s : St) (k : Value → St → Option β) : Option β := Bool.rec none (Option.rec none (fun p => Prod.rec (fun lo f => St.newK s lo fun s' => k (f s.n) s') p) (evAd op T)) (Nat.blt s.n limH)
def i_w (op : WOp) (T : Tm) (s : St) (k : Value → St → Option β) : Option β := evWd op T s k
def i_call (f : Opd) (args : List Opd) (T : Tm) (s : St) (k : Value → St → Option β) : Option β := Option.rec none (fun p => Prod.rec (fun v s => k v s) p) (call (oev T f) (oevs T args) s)
theorem i_p_eq : i_p (β := β) = Sim.i_p := by
  funext op T s k
  unfold i_p Sim.i_p
  rw [evPd_eq,show evP T op = Sim.evPd op T from rfl]
  cases Sim.evPd op T <;> rfl
theorem i_r_eq : i_r (β := β) = Sim.i_r := by
  funext op T s k
  unfold i_r Sim.i_r
  rw [evRd_eq,show evR T s.h op = Sim.evRd op T s.h from rfl]
  cases Sim.evRd op T s.h <;> rfl
theorem i_a_eq : i_a (β := β) = Sim.i_a := by
  funext op T s k
  unfold i_a Sim.i_a
  rw [evAd_eq,show evA T op = Sim.evAd op T from rfl]
  cases Nat.blt s.n limH
  · rfl
  · cases Sim.evAd op T <;> rfl
theorem i_w_eq : i_w (β := β) = Sim.i_w := by
  funext op T s k
  unfold i_w Sim.i_w
  rw [evWd_eq]
  rfl
theorem i_call_eq : i_call (β := β) call = Sim.i_call call := by
  funext f args T s k
  unfold i_call Sim.i_call
  rw [oev_eq]
  cases call (Sim.oev T f) (oevs T args) s <;> rfl
def evI (op : IOp) : Tm → St → (Value → St → Option β) → Option β := IOp.rec i_p i_r i_a i_w (i_call call) op
theorem evI_eq (o : Ins) : evI (β := β) call o.op = Sim.evI call o := by
  funext T s k
  unfold Sim.evI
  cases o.op
  · exact congrFun (congrFun (congrFun (congrFun i_p_eq _) T) s) k
  · exact congrFun (congrFun (congrFun (congrFun i_r_eq _) T) s) k
  · exact congrFun (congrFun (congrFun (congrFun i_a_eq _) T) s) k
  · exact congrFun (congrFun (congrFun (congrFun i_w_eq _) T) s) k
  · exact congrFun (congrFun (congrFun (congrFun (congrFun (i_call_eq call) _) _) T) s) k
def putD (d : Option Nat) (T : Tm) (v : Value) (k : Tm → β) : β := Option.rec (k T) (fun d => Tr.setK DT T d (some v) k) d
theorem putD_eq : putD (β := β) = Sim.putD := by
  funext d T v k
  cases d <;> rfl
def wantedB (b : Bool) (v : Value) : Bool := match v with
  | .bool c => Bool.rec (Bool.rec true false c) (Bool.rec false true c) b
  | _ => false
def wanted (T : Tm) (g : Option (Nat × Bool)) : Bool := Option.rec true (fun p => Prod.rec (fun t b => wantedB b (tget T t)) p) g
theorem wanted_eq : wanted = Sim.wanted := by
  funext T g
  cases g with
  | none => rfl
  | some p =>
    obtain ⟨t,b⟩ := p
    show wantedB b (tget T t) = Sim.wanted T (some (t,b))
    rw [tget_eq]
    unfold wantedB Sim.wanted
    simp only
    generalize Sim.tget T t = v
    cases v <;> try rfl
    rename_i c
    cases b <;> cases c <;> rfl
def evOps (l : List Ins) : Tm → St → (Tm → St → Option β) → Option β :=
  List.rec (fun T s k => k T s) (fun o _ ih T s k => Ins.rec (fun dst op grd => Bool.rec (Bool.rec none (putD dst T (.tuple ⟨[]⟩) fun T => ih T s k) (gOK T grd)) (evI call op T s fun v s => force v fun v => putD dst T v fun T => ih T s k) (wanted T grd)) o) l
theorem evOps_eq : ∀ (l : List Ins),evOps (β := β) call l = Sim.evOps call l
  | [] => rfl
  | o :: l => by
    funext T s k
    have ih := evOps_eq l
    obtain ⟨dst,op,grd⟩ := o
    show (Bool.rec (Bool.rec none (putD dst T (.tuple ⟨[]⟩) fun T => evOps call l T s k) (gOK T grd)) (evI call op T s fun v s => force v fun v => putD dst T v fun T => evOps call l T s k) (wanted T grd) : Option β) = _
    simp only [force_eq]
    rw [ih,putD_eq,wanted_eq,show evI (β := β) call op = Sim.evI call ⟨dst,op,grd⟩ from evI_eq call ⟨dst,op,grd⟩]
    simp only [Sim.evOps,Sim.force_eq]
    cases Sim.wanted T grd <;> first | rfl | (cases gOK T grd <;> rfl)
end

section
variable (call : Value → List Value → St → Option (Value × St)) (code : IC → Option Nat → List Nat → Tm → St → Option Cf)
def c_skip (rnd : Option Nat) (ds : List Nat) (T : Tm) (s : St) : Option Cf := some ⟨.norm,T,s,ds⟩
def c_ops (l : List Ins) (_rnd : Option Nat) (ds : List Nat) (T : Tm) (s : St) : Option Cf := evOps call l T s fun T s => some ⟨.norm,T,s,ds⟩
def c_draw (l : List DI) (_rnd : Option Nat) (ds : List Nat) (T : Tm) (s : St) : Option Cf := evDraw call l T s fun T s => some ⟨.norm,T,s,ds⟩
def c_seq (a b : IC) (_ _ : Option Nat → List Nat → Tm → St → Option Cf) (rnd : Option Nat) (ds : List Nat) (T : Tm) (s : St) : Option Cf :=
  Option.rec none (fun c => Cf.rec (fun o T s ds => Out.rec (code b rnd ds T s) (some ⟨.ret,T,s,ds⟩) (fun i => some ⟨.exit i,T,s,ds⟩) (fun i => some ⟨.goto i,T,s,ds⟩) o) c) (code a rnd ds T s)
def boolV {β : Type} (v : Value) (t f : Option β) : Option β := match v with
  | .bool true => t
  | .bool false => f
  | _ => none
def c_cond (x : Opd) (a b : IC) (_ _ : Option Nat → List Nat → Tm → St → Option Cf) (rnd : Option Nat) (ds : List Nat) (T : Tm) (s : St) : Option Cf := boolV (oev T x) (code a rnd ds T s) (code b rnd ds T s)
def c_block (id : Nat) (a : IC) (_ : Option Nat → List Nat → Tm → St → Option Cf) (rnd : Option Nat) (ds : List Nat) (T : Tm) (s : St) : Option Cf :=
  Option.rec none (fun c => Cf.rec (fun o T s ds => Out.rec (some ⟨.norm,T,s,ds⟩) (some ⟨.ret,T,s,ds⟩) (fun m => Bool.rec (some ⟨.exit m,T,s,ds⟩) (some ⟨.norm,T,s,ds⟩) (Nat.beq m id)) (fun i => some ⟨.goto i,T,s,ds⟩) o) c) (code a rnd ds T s)
def c_loop (a : IC) (_ : Option Nat → List Nat → Tm → St → Option Cf) (rnd : Option Nat) (ds : List Nat) (T : Tm) (s : St) : Option Cf :=
  Option.rec none (fun c => Cf.rec (fun o T s ds => Out.rec (code (.loop a) rnd ds T s) (some ⟨.ret,T,s,ds⟩) (fun i => some ⟨.exit i,T,s,ds⟩) (fun i => some ⟨.goto i,T,s,ds⟩) o) c) (code a rnd ds T s)
def c_rng (f : Opd) (ps : List Nat) (asg body : IC) (_ _ : Option Nat → List Nat → Tm → St → Option Cf) (rnd : Option Nat) (ds : List Nat) (T : Tm) (s : St) : Option Cf := codeB call code (.rng f ps asg body) rnd ds T s
def c_exit (id : Nat) (_rnd : Option Nat) (ds : List Nat) (T : Tm) (s : St) : Option Cf := some ⟨.exit id,T,s,ds⟩
def c_scope (a : IC) (_ : Option Nat → List Nat → Tm → St → Option Cf) (rnd : Option Nat) (ds : List Nat) (T : Tm) (s : St) : Option Cf := codeB call code (.scope a) rnd ds T s
def c_goto (id : Nat) (_rnd : Option Nat) (ds : List Nat) (T : Tm) (s : St) : Option Cf := some ⟨.goto id,T,s,ds⟩
def c_ret (_rnd : Option Nat) (ds : List Nat) (T : Tm) (s : St) : Option Cf := some ⟨.ret,T,s,ds⟩
def codeF (c : IC) : Option Nat → List Nat → Tm → St → Option Cf :=
  IC.rec c_skip (c_ops call) (c_draw call) (c_seq code) (c_cond code) (c_block code) (c_loop code) (c_rng call code) c_exit (c_scope call code) c_goto c_ret c
theorem codeF_eq : codeF call code = codeB call code := by
  funext c rnd ds T s
  cases c
  case ops l =>
    show evOps call l T s _ = _
    rw [evOps_eq]
    rfl
  case seq a b =>
    show c_seq code a b (codeF call code a) (codeF call code b) rnd ds T s = _
    simp only [c_seq,codeB]
    cases code a rnd ds T s with
    | none => rfl
    | some c => obtain ⟨o,T,s,ds⟩ := c; cases o <;> rfl
  case cond x a b =>
    show boolV (oev T x) (code a rnd ds T s) (code b rnd ds T s) = _
    rw [oev_eq]
    simp only [codeB,boolV]
    generalize Sim.oev T x = v
    cases v <;> rfl
  case block id a =>
    show c_block code id a (codeF call code a) rnd ds T s = _
    simp only [c_block,codeB]
    cases code a rnd ds T s with
    | none => rfl
    | some c =>
      obtain ⟨o,T,s,ds⟩ := c
      cases o <;> try rfl
      rename_i m
      show (Bool.rec (some ⟨.exit m,T,s,ds⟩) (some ⟨.norm,T,s,ds⟩) (Nat.beq m id) : Option Cf) = _
      simp only
      cases Nat.beq m id <;> rfl
  case loop a =>
    show c_loop code a (codeF call code a) rnd ds T s = _
    simp only [c_loop,codeB]
    cases code a rnd ds T s with
    | none => rfl
    | some c => obtain ⟨o,T,s,ds⟩ := c; cases o <;> rfl
  all_goals rfl
end
end
end Go.Sim.K
namespace Go.Sim
set_option linter.all false
open Go
variable [Rho] [Asm] [SymOK]

def S1 (h : Tr LO) (n : Nat) : St := ⟨h,n,n,[]⟩
def I1 (P : Program) : Io := fun g => match gsize P g with
  | some c => some (g,c)
  | none => none
theorem gsize_lt {P : Program} {g c : Nat} (h : gsize P g = some c) : g < P.globals.size := by
  unfold gsize at h
  split at h
  · rename_i hg; exact (Array.getElem?_eq_some_iff.1 hg).1
  · cases h
theorem I1_inv {P : Program} {b r c : Nat} (h : I1 P b = some (r,c)) : r = b ∧ gsize P b = some c := by
  unfold I1 at h
  split at h
  · rename_i hc; cases h; exact ⟨rfl,hc⟩
  · cases h
def Laid1 (P : Program) (h : Tr LO) (w : World) : Prop := ∀ b o,h.get b = some o → ∃ c l cs t f,gsize P b = some c ∧ o = .ro l ∧ w.heap[b]? = some (.cells cs t f) ∧ cs.toList = l
theorem WR.first {P : Program} {h : Tr LO} {n : Nat} {w : World} (hn : P.globals.size = n) (hl : n ≤ limH) (hw : n ≤ w.heap.size) (ht : Laid1 P h w) (he : Rho.B ≤ w.heap.size ∧ ∀ k,P.globals.size ≤ k → k < Rho.B → w.heap[k]? = Rho.W0 k) : WR P (I1 P) (S1 h n) w where
  obj := fun b o hb => by
    obtain ⟨c,l,cs,t,f,h1,rfl,h3,h4⟩ := ht b o hb
    exact ⟨b,c,_,by unfold I1; rw [h1],h3,cs,t,f,rfl,h4⟩
  inj := fun b b' r c c' _ _ h3 h4 => by rw [← (I1_inv h3).1,← (I1_inv h4).1]
  bound := fun b r c h => by
    obtain ⟨e1,e2⟩ := I1_inv h
    have := gsize_lt e2
    omega
  dom := fun b r h => by
    obtain ⟨r,c⟩ := r
    have := gsize_lt (I1_inv h).2
    show b < n
    omega
  lim := hl
  bsn := Nat.le_refl _
  wsb := fun b h => by cases h
  pin := fun g c hg => by unfold I1; rw [hg]
  env := ⟨fun b r c h => .inl (by obtain ⟨e1,e2⟩ := I1_inv h; have := gsize_lt e2; omega),he.1,he.2⟩

structure Kept (w w' : World) : Prop where
  os : w'.os = w.os
  tape : w'.tape = w.tape
  output : w'.output = w.output
  size : w.heap.size ≤ w'.heap.size
  heap : ∀ k,k < w.heap.size → w'.heap[k]? = w.heap[k]?

end Go.Sim
namespace Go.Sim
set_option linter.all false
open Go
variable [Rho] [Asm] [SymOK]
noncomputable section

def leq : List Nat → List Nat → Bool
  | [],[] => true
  | a :: l,b :: m => match Nat.beq a b with
    | true => leq l m
    | false => false
  | _,_ => false
theorem leq_ok : ∀ {l m : List Nat},leq l m = true → l = m
  | [],[],_ => rfl
  | [],_ :: _,h => by simp [leq] at h
  | _ :: _,[],h => by simp [leq] at h
  | a :: l,b :: m,h => by
    simp only [leq] at h
    split at h
    · rename_i h1; rw [beqN h1,leq_ok h]
    · cases h
def meq : List (Value × Value) → List (Value × Value) → Bool
  | [],[] => true
  | (a,b) :: l,(c,d) :: m => match veq 6 a c,veq 6 b d with
    | true,true => meq l m
    | _,_ => false
  | _,_ => false
theorem meq_ok : ∀ {l m : List (Value × Value)},meq l m = true → l = m
  | [],[],_ => rfl
  | [],_ :: _,h => by simp [meq] at h
  | _ :: _,[],h => by simp [meq] at h
  | (a,b) :: l,(c,d) :: m,h => by
    simp only [meq] at h
    split at h
    · rename_i h1 h2; rw [veq_ok _ _ _ h1,veq_ok _ _ _ h2,meq_ok h]
    · cases h
def loeq : LO → LO → Bool
  | .cells l,.cells m => veq.veqL (veq 6) l m
  | .map n ag es,.map n' ag' es' => match Nat.beq n n',sameB ag ag' with
    | true,true => meq es es'
    | _,_ => false
  | .defd a,.defd b => sameB a b
  | .ro a,.ro b => veq.veqL (veq 6) a b
  | _,_ => false
theorem loeq_ok {a b : LO} (h : loeq a b = true) : a = b := by
  unfold loeq at h
  split at h
  · rw [veqL_ok (veq_ok 6) h]
  · split at h
    · rename_i h1 h2; rw [beqN h1,sameB_ok h2,meq_ok h]
    · cases h
  · rw [sameB_ok h]
  · rw [veqL_ok (veq_ok 6) h]
  · cases h
def oeq : Option LO → Option LO → Bool
  | none,none => true
  | some a,some b => loeq a b
  | _,_ => false
theorem oeq_ok {a b : Option LO} (h : oeq a b = true) : a = b := by
  unfold oeq at h
  split at h
  · rfl
  · rw [loeq_ok h]
  · cases h
def tsub : Tr LO → Tr LO → Bool
  | .e,_ => true
  | .n l v r,.n l' v' r' => match (match v with
      | none => true
      | some _ => oeq v v'),tsub l l' with
    | true,true => tsub r r'
    | _,_ => false
  | _,_ => false
theorem getP_n (l : Tr LO) (v : Option LO) (r : Tr LO) (p : Path) : Tr.getP p (.n l v r) = match p with
    | .e => v
    | .l p => Tr.getP p l
    | .r p => Tr.getP p r := by cases p <;> rfl
theorem tsub_ok : ∀ {a b : Tr LO},tsub a b = true → ∀ p x,Tr.getP p a = some x → Tr.getP p b = some x
  | .e,_,_,p,x,h => by rw [Tr.getP_e] at h; cases h
  | .n _ _ _,.e,h,_,_,_ => by simp [tsub] at h
  | .n l v r,.n l' v' r',h,p,x,hx => by
    simp only [tsub] at h
    split at h
    · rename_i h1 h2
      rw [getP_n] at hx ⊢
      cases p with
      | e =>
        simp only at hx ⊢
        rw [hx] at h1
        rw [← oeq_ok h1]
      | l p => exact tsub_ok h2 p x hx
      | r p => exact tsub_ok h p x hx
    · cases h
theorem Po.kept {P : Program} {ι : Io} {s : St} {w w' : World} (hW : WR P ι s w) (hk : Kept w w') : Po P ι s w ι s w' where
  wr0 := hW
  ext := .refl _
  wr := {
    obj := fun b o hb => by
      obtain ⟨r,c,x,h1,h2,h3⟩ := hW.obj b o hb
      exact ⟨r,c,x,h1,by rw [hk.heap r (hW.bound _ _ _ h1)]; exact h2,h3⟩
    inj := hW.inj
    bound := fun b r c h => Nat.lt_of_lt_of_le (hW.bound b r c h) hk.size
    dom := hW.dom
    lim := hW.lim
    bsn := hW.bsn
    wsb := hW.wsb
    pin := hW.pin
    env := hW.env.mono (fun b r c h => .inl ⟨b,c,h⟩) hk.size fun k h _ => hk.heap k h }
  os := hk.os
  tape := hk.tape
  output := hk.output
  size := hk.size
  frame := fun k h _ => hk.heap k h
  newold := fun b r c h1 h2 => by rw [h1] at h2; cases h2
  newid := fun b r h1 h2 => by rw [h1] at h2; cases h2
  inv := fun _ _ _ => rfl
  dead := fun _ _ h => h
  bs := rfl
  nle := Nat.le_refl _
  wsm := fun _ h => h
theorem Po.whole {P : Program} {ι ι' : Io} {s : St} {w w' : World} (hp : Po P ι s w ι' s w') (h : s.bs = s.n) (hw : s.ws = []) : Kept w w' :=
  ⟨hp.os,hp.tape,hp.output,hp.size,fun k hk => hp.frame k hk fun b c hb => .inr ⟨by
    have := hp.wr0.dom b _ hb
    omega,by rw [hw]; intro h; cases h⟩⟩

section
variable {P : Program}
theorem CallR.mono {fv : Value} {args : List Value} {w : World} {R R' : Value → World → Prop} (h : CallR P fv args w R) (hR : ∀ v w,R v w → R' v w) : CallR P fv args w R' := by
  rcases h with ⟨g,xs,ys,fn,h1,h2,h3,h4,h5⟩ | ⟨r,lp,h1,h2,h3,h4⟩
  · refine .inl ⟨g,xs,ys,fn,h1,h2,h3,h4,fun n => CallsIn.mono (h5 n) ?_⟩
    rintro e w' ⟨v',rfl,hv⟩
    exact ⟨v',rfl,hR _ _ hv⟩
  · refine .inr ⟨r,lp,h1,h2,h3,fun n => RoundIn.mono (h4 n) ?_⟩
    rintro e w' ⟨v',rfl,hv⟩
    exact ⟨v',rfl,hR _ _ hv⟩

structure Chg where
  fv : Value
  args : List Value
  s : St
  v : Value
  n1 : Nat
  ws1 : List Nat
  upd : List (Nat × Option LO)
def applyU : List (Nat × Option LO) → Tr LO → Tr LO
  | [],h => h
  | (b,o) :: u,h => applyU u (Tr.set DH h b o)
def lookU (b : Nat) : List (Nat × Option LO) → Option (Option LO)
  | [] => none
  | (c,o) :: u => match lookU b u with
    | some o' => some o'
    | none => match Nat.beq b c with
      | true => some o
      | false => none
def Chg.s1 (k : Chg) : St := ⟨applyU k.upd k.s.h,k.n1,k.s.bs,k.ws1⟩
def okU (k : Chg) : List (Nat × Option LO) → Bool
  | [] => true
  | (b,_) :: u => match Nat.blt b limH,(match Nat.blt b k.s.n with
      | true => (match k.s.h.get b with
        | some _ => true
        | none => false)
      | false => true) with
    | true,true => okU k u
    | _,_ => false
theorem applyU_get : ∀ {u : List (Nat × Option LO)} {h : Tr LO} {k : Chg},okU k u = true → ∀ j,(applyU u h).get j = match lookU j u with
    | some o => o
    | none => h.get j
  | [],h,k,_,j => rfl
  | (b,o) :: u,h,k,hk,j => by
    simp only [okU] at hk
    split at hk
    · rename_i h1 h2
      simp only [applyU,lookU]
      rw [applyU_get hk j]
      cases hl : lookU j u with
      | some o' => rfl
      | none =>
        simp only
        rw [Tr.get_set DH h b o j (lim_ok (blt_true h1))]
        cases hb : Nat.beq j b with
        | true => rw [if_pos (beqN hb)]
        | false => rw [if_neg (Nat.ne_of_beq_eq_false hb)]
    · cases hk
theorem okU_mem {k : Chg} : ∀ {u : List (Nat × Option LO)},okU k u = true → ∀ j o,lookU j u = some o → k.s.n ≤ j ∨ k.s.h.get j ≠ none
  | [],_,j,o,h => by cases h
  | (b,o') :: u,hk,j,o,h => by
    simp only [okU] at hk
    split at hk
    · rename_i h1 h2
      simp only [lookU] at h
      split at h
      · rename_i hl
        exact okU_mem hk j _ hl
      · split at h
        · rename_i hb
          rw [beqN hb]
          split at h2
          · split at h2
            · rename_i hg; right; rw [hg]; simp
            · cases h2
          · rename_i hb; left; exact blt_false hb
        · cases h
    · cases hk
def chit (k : Chg) (fv : Value) (args : List Value) (s : St) : Bool := match veq 6 fv k.fv with
  | false => false
  | true => match veq.veqL (veq 6) args k.args,Nat.beq s.n k.s.n,Nat.beq s.bs k.s.bs with
      | true,true,true => match leq s.ws k.s.ws with
        | true => tsub k.s.h s.h
        | false => false
      | _,_,_ => false
theorem chit_ok {k : Chg} {fv : Value} {args : List Value} {s : St} (h : chit k fv args s = true) : fv = k.fv ∧ args = k.args ∧ s.n = k.s.n ∧ s.bs = k.s.bs ∧ s.ws = k.s.ws ∧ ∀ b o,k.s.h.get b = some o → s.h.get b = some o := by
  unfold chit at h
  split at h
  · cases h
  · rename_i h0
    split at h
    · rename_i h1 h2 h3
      split at h
      · rename_i h4
        exact ⟨veq_ok _ _ _ h0,veqL_ok (veq_ok 6) h1,beqN h2,beqN h3,leq_ok h4,fun b o hb => tsub_ok h _ o hb⟩
      · cases h
    · cases h
def CFact (P : Program) (k : Chg) : Prop := okU k k.upd = true ∧ ∀ (ι : Io) (w : World) (fv' : Value) (args' : List Value),VR ι k.fv fv' → LR ι k.args args' → WR P ι k.s w → CallR P fv' args' w fun v' w' => ∃ ι',VR ι' k.v v' ∧ Po P ι k.s w ι' k.s1 w'
inductive CL (P : Program) : List Chg → Prop
  | nil : CL P []
  | cons {k : Chg} {ks : List Chg} : CFact P k → CL P ks → CL P (k :: ks)
def chgs (call : Value → List Value → St → Option (Value × St)) : List Chg → Value → List Value → St → Option (Value × St)
  | [],fv,args,s => call fv args s
  | k :: ks,fv,args,s => match chit k fv args s with
    | true => some (k.v,⟨applyU k.upd s.h,k.n1,s.bs,k.ws1⟩)
    | false => chgs call ks fv args s
theorem chgs_ok {call : Value → List Value → St → Option (Value × St)} {ks : List Chg} (hks : CL P ks) {fv : Value} {args : List Value} {s s1 : St} {v : Value} (h : chgs call ks fv args s = some (v,s1))
    {ι : Io} {w : World} {fv' : Value} {args' : List Value} (q1 : VR ι fv fv') (q2 : LR ι args args') (q3 : WR P ι s w) (hc : call fv args s = some (v,s1) → CallR P fv' args' w fun v' w' => ∃ ι',VR ι' v v' ∧ Po P ι s w ι' s1 w') :
    CallR P fv' args' w fun v' w' => ∃ ι',VR ι' v v' ∧ Po P ι s w ι' s1 w' := by
  induction hks with
  | nil => exact hc h
  | @cons k ks hf hs ih =>
    simp only [chgs] at h
    split at h
    · rename_i hh
      cases h
      obtain ⟨rfl,rfl,h1,h2,h3,h4⟩ := chit_ok hh
      obtain ⟨hu,hf⟩ := hf
      have hless := q3.less h4 h1.symm h2.symm h3.symm
      refine CallR.mono (hf ι w fv' args' q1 q2 hless) ?_
      rintro v' w' ⟨ι',hv,hp⟩
      refine ⟨ι',hv,hp.more (fun b => if k.s.h.get b = none then s.h.get b else none) q3 (fun b => ?_) (fun b => ?_) (fun b hb => ?_) h1 rfl h2 h2 h3 rfl⟩
      · cases hq : k.s.h.get b with
        | none => simp
        | some o => simp [h4 b o hq]
      · show (applyU k.upd s.h).get b = (if k.s.h.get b = none then s.h.get b else none).or ((applyU k.upd k.s.h).get b)
        rw [applyU_get hu b,applyU_get hu b]
        cases hl : lookU b k.upd with
        | none =>
          cases hq : k.s.h.get b with
          | none => simp
          | some o => simp [h4 b o hq]
        | some o =>
          simp only
          rcases okU_mem hu b o hl with hb | hb
          · have hs0 : s.h.get b = none := by
              cases hq : s.h.get b with
              | none => rfl
              | some x =>
                obtain ⟨r,c,y,e1,_⟩ := q3.obj b x hq
                have := q3.dom _ _ e1
                omega
            rw [hs0]
            split <;> rfl
          · rw [if_neg hb]; rfl
      · cases hq : k.s.h.get b with
        | none => rfl
        | some o => simp [hq] at hb
    · exact ih h

structure Gen where
  f : Nat
  args : List Value
  tb : Option (Nat × List Value)
  n : Nat
  bl : List LO
  v : Value
def nthN : List Nat → Nat → Option Nat
  | [],_ => none
  | b :: l,i => match i with
    | 0 => some b
    | i + 1 => nthN l i
def lenN : List Nat → Nat
  | [] => 0
  | _ :: l => Nat.succ (lenN l)
def apN : List Nat → Nat → List Nat
  | [],b => [b]
  | c :: l,b => c :: apN l b
def mblk (n c b : Nat) (bs : List Nat) : Option (List Nat) := match Nat.blt c n with
  | true => match Nat.beq c b with
    | true => some bs
    | false => none
  | false => match nthN bs (Nat.sub c n) with
    | some b' => match Nat.beq b b' with
      | true => some bs
      | false => none
    | none => match Nat.beq (Nat.sub c n) (lenN bs),mem b bs,Nat.ble n b with
      | true,false,true => some (apN bs b)
      | _,_,_ => none
mutual
def mv (n : Nat) : Nat → Value → Value → List Nat → Option (List Nat)
  | 0,_,_,_ => none
  | d + 1,v,w,bs => match v,w with
    | .int k a,.int l b => match kindB k l,eqI a b with
      | true,true => some bs
      | _,_ => none
    | .bool a,.bool b => match sameB a b with
      | true => some bs
      | false => none
    | .string ⟨⟨a⟩⟩,.string ⟨⟨b⟩⟩ => match eqU a b with
      | true => some bs
      | false => none
    | .slice none x k,.slice none x' k' => match Nat.beq x x',Nat.beq k k',Nat.blt k 18446744073709551616 with
      | true,true,true => some bs
      | _,_,_ => none
    | .slice (some ⟨b,o,none⟩) x k,.slice (some ⟨b',o',none⟩) x' k' => match Nat.beq o o',Nat.beq x x',Nat.beq k k',Nat.blt k 18446744073709551616 with
      | true,true,true,true => mblk n b b' bs
      | _,_,_,_ => none
    | .pointer (some ⟨b,o,none⟩),.pointer (some ⟨b',o',none⟩) => match Nat.beq o o' with
      | true => mblk n b b' bs
      | false => none
    | .func (.yield t) ⟨a :: l⟩ ⟨[]⟩,w => match seq 60 (nd t a l) w with
      | true => some bs
      | false => none
    | .agg ⟨xs⟩,.agg ⟨ys⟩ => mvL n d xs ys bs
    | .tuple ⟨xs⟩,.tuple ⟨ys⟩ => mvL n d xs ys bs
    | _,_ => none
def mvL (n : Nat) : Nat → List Value → List Value → List Nat → Option (List Nat)
  | 0,_,_,_ => none
  | d + 1,l,m,bs => match l,m with
    | [],[] => some bs
    | x :: xs,y :: ys => match mv n d x y bs with
      | some bs' => mvL n d xs ys bs'
      | none => none
    | _,_ => none
end
end
end
end Go.Sim
namespace Go.Sim
set_option linter.all false
open Go
variable [Rho] [Asm] [SymOK]
noncomputable section

def ιc (n : Nat) (bs : List Nat) (ι : Io) : Io := fun x => match Nat.blt x n with
  | true => ι x
  | false => match nthN bs (Nat.sub x n) with
    | some b => ι b
    | none => none
theorem nthN_eq : ∀ (bs : List Nat) (i : Nat),nthN bs i = bs[i]?
  | [],i => by simp [nthN]
  | c :: l,i => by
    cases i with
    | zero => simp [nthN]
    | succ i => simp [nthN,nthN_eq l i]
theorem lenN_eq : ∀ (l : List Nat),lenN l = l.length
  | [] => rfl
  | _ :: l => by simp [lenN,lenN_eq l]
theorem apN_eq : ∀ (l : List Nat) (b : Nat),apN l b = l ++ [b]
  | [],_ => rfl
  | c :: l,b => by simp [apN,apN_eq l b]
theorem mem_iff {b : Nat} : ∀ {l : List Nat},mem b l = false → b ∉ l
  | [],_ => by simp
  | c :: l,h => by
    simp only [mem] at h
    split at h
    · cases h
    · rename_i hb
      have := Nat.ne_of_beq_eq_false hb
      simp only [List.mem_cons,not_or]
      exact ⟨this,mem_iff h⟩
structure OkB (n : Nat) (bs : List Nat) : Prop where
  nd : bs.Nodup
  ge : ∀ x ∈ bs,n ≤ x
theorem ιc_mono {n : Nat} {bs t : List Nat} {ι : Io} : Ext (ιc n bs ι) (ιc n (bs ++ t) ι) := fun x r h => by
  unfold ιc at h ⊢
  split at h
  · exact h
  · rename_i hb
    split at h
    · rename_i b hn
      have : nthN (bs ++ t) (Nat.sub x n) = some b := by
        rw [nthN_eq] at hn ⊢
        exact List.getElem?_append_left (List.getElem?_eq_some_iff.1 hn).1 ▸ hn
      simp only [this]
      exact h
    · cases h
theorem mblk_ok {n c b : Nat} {bs bs' : List Nat} (h : mblk n c b bs = some bs') (hk : OkB n bs) : OkB n bs' ∧ (∃ t,bs' = bs ++ t) ∧ ∀ (ι : Io) r,ι b = some r → ιc n bs' ι c = some r := by
  unfold mblk at h
  split at h
  · rename_i hb
    split at h
    · rename_i he
      cases h
      refine ⟨hk,⟨[],by simp⟩,fun ι r hr => ?_⟩
      unfold ιc
      rw [hb,beqN he]
      exact hr
    · cases h
  · rename_i hb
    split at h
    · rename_i b' hn
      split at h
      · rename_i he
        cases h
        refine ⟨hk,⟨[],by simp⟩,fun ι r hr => ?_⟩
        unfold ιc
        simp only [hb,hn,← beqN he]
        exact hr
      · cases h
    · split at h
      · rename_i hc hm hn
        cases h
        rw [apN_eq]
        refine ⟨⟨?_,?_⟩,⟨[b],rfl⟩,fun ι r hr => ?_⟩
        · rw [List.nodup_append]
          refine ⟨hk.nd,by simp,?_⟩
          intro x hx y hy
          simp at hy
          subst hy
          rintro rfl
          exact mem_iff hm hx
        · intro x hx
          rcases List.mem_append.1 hx with h | h
          · exact hk.ge x h
          · simp at h; subst h; exact Nat.le_of_ble_eq_true hn
        · unfold ιc
          have hcl := beqN hc
          rw [lenN_eq] at hcl
          have : nthN (bs ++ [b]) (Nat.sub c n) = some b := by
            rw [nthN_eq,hcl]; simp
          simp only [hb,this]
          exact hr
      · cases h
def MV (n : Nat) (u v : Value) (bs bs' : List Nat) : Prop := OkB n bs → OkB n bs' ∧ (∃ t,bs' = bs ++ t) ∧ ∀ (ι : Io) v',VR ι v v' → VR (ιc n bs' ι) u v'
def MVL (n : Nat) (l m : List Value) (bs bs' : List Nat) : Prop := OkB n bs → OkB n bs' ∧ (∃ t,bs' = bs ++ t) ∧ ∀ (ι : Io) m',LR ι m m' → LR (ιc n bs' ι) l m'
theorem mv_ok {n : Nat} : ∀ d,(∀ u v bs bs',mv n d u v bs = some bs' → MV n u v bs bs') ∧ ∀ l m bs bs',mvL n d l m bs = some bs' → MVL n l m bs bs' := by
  intro d
  induction d with
  | zero => exact ⟨fun u v bs bs' h => by simp [mv] at h,fun l m bs bs' h => by simp [mvL] at h⟩
  | succ d ih =>
    obtain ⟨ih1,ih2⟩ := ih
    constructor
    · intro u v bs bs' h
      unfold mv at h
      split at h
      · split at h
        · rename_i h1 h2
          cases h
          intro hk
          refine ⟨hk,⟨[],by simp⟩,fun ι v' hv => ?_⟩
          rw [kindB_ok h1,eqI_ok h2]
          cases hv
          exact .int _ _
        · cases h
      · split at h
        · rename_i h1
          cases h
          intro hk
          refine ⟨hk,⟨[],by simp⟩,fun ι v' hv => ?_⟩
          rw [sameB_ok h1]
          cases hv
          exact .bool _
        · cases h
      · split at h
        · rename_i h1
          cases h
          intro hk
          refine ⟨hk,⟨[],by simp⟩,fun ι v' hv => ?_⟩
          rw [eqU_eq] at h1
          simp only [beq_iff_eq] at h1
          rw [h1]
          cases hv
          exact .str _
        · cases h
      · split at h
        · rename_i h1 h2 h3
          cases h
          intro hk
          refine ⟨hk,⟨[],by simp⟩,fun ι v' hv => ?_⟩
          rw [← beqN h1,← beqN h2] at hv
          have h3' := blt_true h3
          rw [hv.sl0I (by simpa using h3')]
          exact .sl0 _ _ (by simpa using h3')
        · cases h
      · split at h
        · rename_i h1 h2 h3 h4
          intro hk
          obtain ⟨q1,q2,q3⟩ := mblk_ok h hk
          refine ⟨q1,q2,fun ι v' hv => ?_⟩
          rw [← beqN h1,← beqN h2,← beqN h3] at hv
          have h4' := blt_true h4
          obtain ⟨r,c,rfl,hb⟩ := hv.slI (by simpa using h4')
          exact .sl (q3 ι _ hb) (by simpa using h4')
        · cases h
      · split at h
        · rename_i h1
          intro hk
          obtain ⟨q1,q2,q3⟩ := mblk_ok h hk
          refine ⟨q1,q2,fun ι v' hv => ?_⟩
          rw [← beqN h1] at hv
          obtain ⟨r,c,rfl,hb⟩ := hv.ptrI
          exact .ptr (q3 ι _ hb)
        · cases h
      · split at h
        · rename_i h1
          cases h
          intro hk
          refine ⟨hk,⟨[],by simp⟩,fun ι v' hv => ?_⟩
          rw [← seq_ok _ _ _ h1] at hv
          cases hv with
          | func hn => exact absurd rfl (hn _)
          | sym hd => exact .sym hd
          | symB hd => exact .symB hd
          | unk hs => exact .unk hs
          | opq e hs => exact .opq e hs
        · cases h
      · intro hk
        obtain ⟨q1,q2,q3⟩ := ih2 _ _ _ _ h hk
        refine ⟨q1,q2,fun ι v' hv => ?_⟩
        obtain ⟨l',rfl,hl⟩ := hv.aggI
        exact .agg (q3 ι _ hl)
      · intro hk
        obtain ⟨q1,q2,q3⟩ := ih2 _ _ _ _ h hk
        refine ⟨q1,q2,fun ι v' hv => ?_⟩
        obtain ⟨l',rfl,hl⟩ := hv.tupI
        exact .tup (q3 ι _ hl)
      · cases h
    · intro l m bs bs' h
      unfold mvL at h
      split at h
      · cases h
        intro hk
        refine ⟨hk,⟨[],by simp⟩,fun ι m' hm => ?_⟩
        cases hm
        exact .nil
      · split at h
        · rename_i b1 hx
          intro hk
          obtain ⟨q1,⟨t,q2⟩,q3⟩ := ih1 _ _ _ _ hx hk
          obtain ⟨r1,⟨t',r2⟩,r3⟩ := ih2 _ _ _ _ h q1
          refine ⟨r1,⟨t ++ t',by rw [r2,q2,List.append_assoc]⟩,fun ι m' hm => ?_⟩
          cases hm with
          | cons hv hl =>
            refine .cons (VR.mono ?_ (q3 ι _ hv)) (r3 ι _ hl)
            rw [r2]
            exact ιc_mono
        · cases h
      · cases h

def layB : List LO → Nat → Tr LO → Tr LO
  | [],_,h => h
  | o :: r,i,h => layB r (Nat.succ i) (Tr.set DH h i (some o))
theorem layB_get : ∀ {bl : List LO} {i : Nat} {h : Tr LO},i + bl.length ≤ limH → ∀ b,(layB bl i h).get b = if i ≤ b ∧ b < i + bl.length then bl[b - i]? else h.get b
  | [],i,h,_,b => by simp only [layB,List.length_nil]; rw [if_neg (by omega)]
  | o :: r,i,h,hl,b => by
    simp only [List.length_cons] at hl
    simp only [layB]
    rw [layB_get (by show i + 1 + r.length ≤ limH; omega) b]
    have hg := Tr.get_set DH h i (some o) b (lim_le (by omega))
    by_cases h1 : i.succ ≤ b ∧ b < i.succ + r.length
    · rw [if_pos h1,if_pos (by simp; omega)]
      have : b - i = (b - i.succ) + 1 := by omega
      rw [this,List.getElem?_cons_succ]
    · rw [if_neg h1,hg]
      by_cases h2 : b = i
      · subst h2; rw [if_pos rfl,if_pos (by simp)]; simp
      · rw [if_neg h2,if_neg (by simp; omega)]
def Gen.h0 (k : Gen) : Tr LO := match k.tb with
  | none => .e
  | some (g,l) => Tr.set DH .e g (some (.ro l))
def Gen.st (k : Gen) : St := ⟨layB k.bl k.n k.h0,k.n + k.bl.length,k.n + k.bl.length,[]⟩
def bchk (s : St) (n : Nat) : List LO → List Nat → Bool
  | [],[] => true
  | lo :: l,b :: bs => match s.h.get b with
    | some lo' => match loeq lo lo',flatO n lo with
      | true,true => bchk s n l bs
      | _,_ => false
    | none => false
  | _,_ => false
def tchk (s : St) (n : Nat) : Option (Nat × List Value) → Bool
  | none => true
  | some (g,l) => match Nat.blt g n,s.h.get g with
    | true,some lo => loeq (.ro l) lo
    | _,_ => false
def ghit (k : Gen) (fv : Value) (args : List Value) (s : St) : Bool := match fv with
  | .func (.func g) ⟨[]⟩ ⟨[]⟩ => match Nat.beq g k.f with
    | false => false
    | true => match mvL k.n 40 k.args args [] with
      | none => false
      | some bs => match tchk s k.n k.tb with
        | true => bchk s k.n k.bl bs
        | false => false
  | _ => false
theorem bchk_ok {s : St} {n : Nat} : ∀ {bl : List LO} {bs : List Nat},bchk s n bl bs = true → bs.length = bl.length ∧ ∀ (i : Nat) (lo : LO),bl[i]? = some lo → ∃ b,bs[i]? = some b ∧ s.h.get b = some lo ∧ flatO n lo = true
  | [],[],_ => ⟨rfl,fun i lo h => by simp at h⟩
  | [],_ :: _,h => by simp [bchk] at h
  | _ :: _,[],h => by simp [bchk] at h
  | lo :: l,b :: bs,h => by
    simp only [bchk] at h
    split at h
    · rename_i lo' hb
      split at h
      · rename_i h1 h2
        obtain ⟨q1,q2⟩ := bchk_ok h
        refine ⟨by simp [q1],fun i x hx => ?_⟩
        cases i with
        | zero =>
          simp at hx
          subst hx
          exact ⟨b,by simp,by rw [hb,loeq_ok h1],h2⟩
        | succ i => simpa using q2 i x (by simpa using hx)
      · cases h
    · cases h
theorem WR.canon {P : Program} {ι : Io} {s : St} {w : World} {k : Gen} {bs : List Nat} (hW : WR P ι s w) (hok : OkB k.n bs) (ht : tchk s k.n k.tb = true) (hb : bchk s k.n k.bl bs = true) (hn : P.globals.size ≤ k.n) (hl : k.n + k.bl.length ≤ limH) :
    WR P (ιc k.n bs ι) k.st w := by
  obtain ⟨b1,b2⟩ := bchk_ok hb

  have low : ∀ x,x < k.n → ιc k.n bs ι x = ι x := fun x hx => by
    unfold ιc
    have : Nat.blt x k.n = true := by simpa [Nat.blt_eq] using hx
    rw [this]
  have high : ∀ x,k.n ≤ x → ∀ r,ιc k.n bs ι x = some r → ∃ b,bs[x - k.n]? = some b ∧ ι b = some r := fun x hx r h => by
    unfold ιc at h
    have hb : Nat.blt x k.n = false := by
      cases hq : Nat.blt x k.n with
      | false => rfl
      | true => have := blt_true hq; omega
    rw [hb] at h
    simp only at h
    split at h
    · rename_i b hnb
      rw [nthN_eq] at hnb
      exact ⟨b,hnb,h⟩
    · cases h
  have high' : ∀ x b,k.n ≤ x → bs[x - k.n]? = some b → ιc k.n bs ι x = ι b := fun x b hx h => by
    unfold ιc
    have hb : Nat.blt x k.n = false := by
      cases hq : Nat.blt x k.n with
      | false => rfl
      | true => have := blt_true hq; omega
    rw [hb]
    simp only
    rw [show nthN bs (Nat.sub x k.n) = some b from by rw [nthN_eq]; exact h]
  have h0 : ∀ x o,k.h0.get x = some o → x < k.n ∧ s.h.get x = some o ∧ flatO k.n o = true := fun x o hx => by
    unfold Gen.h0 at hx
    cases htb : k.tb with
    | none => rw [htb] at hx; simp only at hx; rw [Tr.get_e] at hx; cases hx
    | some p =>
      obtain ⟨g,l⟩ := p
      rw [htb] at hx ht
      simp only [tchk] at ht
      split at ht
      · rename_i hg hlo
        have hg := blt_true hg
        simp only at hx
        rw [Tr.get_set DH _ _ _ _ (lim_le (by omega))] at hx
        split at hx
        · rename_i e
          subst e
          cases hx
          exact ⟨hg,by rw [hlo,← loeq_ok ht],rfl⟩
        · rw [Tr.get_e] at hx; cases hx
      · cases ht
  have got : ∀ x o,k.st.h.get x = some o → (x < k.n ∧ s.h.get x = some o ∧ flatO k.n o = true) ∨ (k.n ≤ x ∧ ∃ b,bs[x - k.n]? = some b ∧ s.h.get b = some o ∧ flatO k.n o = true) := fun x o hx => by
    have hx' : (layB k.bl k.n k.h0).get x = some o := hx
    rw [layB_get hl] at hx'
    split at hx'
    · rename_i h
      exact .inr ⟨h.1,b2 _ _ hx'⟩
    · exact .inl (h0 x o hx')
  have backι : ∀ (b : Nat) (r : Nat × Nat),b < k.n → ι b = some r → ιc k.n bs ι b = some r := fun b r hb h => by rw [low b hb]; exact h
  refine ⟨?_,?_,?_,?_,hl,Nat.le_refl _,fun b h => (by cases h),fun g c hg => ?_,?_⟩
  · intro x o hx
    rcases got x o hx with ⟨h1,h2,h3⟩ | ⟨h1,b,h2,h3,h4⟩
    · obtain ⟨r,c,y,e1,e2,e3⟩ := hW.obj x o h2
      exact ⟨r,c,y,by rw [low x h1]; exact e1,e2,flatO_ok backι h3 e3⟩
    · obtain ⟨r,c,y,e1,e2,e3⟩ := hW.obj b o h3
      exact ⟨r,c,y,by rw [high' x b h1 h2]; exact e1,e2,flatO_ok backι h4 e3⟩
  · intro x y r c c' hx hy h1 h2
    have lift : ∀ z r c,k.st.h.get z ≠ none → ιc k.n bs ι z = some (r,c) → ∃ b,s.h.get b ≠ none ∧ ι b = some (r,c) ∧ ((z < k.n ∧ b = z) ∨ (k.n ≤ z ∧ bs[z - k.n]? = some b)) := fun z r c hz hι => by
      cases hq : k.st.h.get z with
      | none => exact absurd hq hz
      | some o =>
        rcases got z o hq with ⟨h1,h2,h3⟩ | ⟨h1,b,h2,h3,h4⟩
        · exact ⟨z,by rw [h2]; simp,by rw [low z h1] at hι; exact hι,.inl ⟨h1,rfl⟩⟩
        · exact ⟨b,by rw [h3]; simp,by rw [high' z b h1 h2] at hι; exact hι,.inr ⟨h1,h2⟩⟩
    obtain ⟨b,p1,p2,p3⟩ := lift x r c hx h1
    obtain ⟨b',q1,q2,q3⟩ := lift y r c' hy h2
    have e := hW.inj b b' r c c' p1 q1 p2 q2
    subst e
    rcases p3 with ⟨u1,u2⟩ | ⟨u1,u2⟩ <;> rcases q3 with ⟨v1,v2⟩ | ⟨v1,v2⟩
    · omega
    · have := hok.ge b (List.mem_of_getElem? v2); omega
    · have := hok.ge b (List.mem_of_getElem? u2); omega
    · obtain ⟨l1,l2⟩ := List.getElem?_eq_some_iff.1 u2
      obtain ⟨m1,m2⟩ := List.getElem?_eq_some_iff.1 v2
      have := (List.getElem_inj hok.nd (h₀ := l1) (h₁ := m1)).1 (by rw [l2,m2])
      omega
  · intro x r c h
    by_cases hx : x < k.n
    · rw [low x hx] at h; exact hW.bound _ _ _ h
    · obtain ⟨b,_,hb⟩ := high x (by omega) _ h
      exact hW.bound _ _ _ hb
  · intro x r h
    show x < k.n + k.bl.length
    by_cases hx : x < k.n
    · omega
    · obtain ⟨b,hb,_⟩ := high x (by omega) _ h
      have := (List.getElem?_eq_some_iff.1 hb).1
      omega
  · rw [low g (Nat.lt_of_lt_of_le (gsize_lt hg) hn)]
    exact hW.pin g c hg
  · refine hW.env.mono (fun x r c h => ?_) (Nat.le_refl _) fun _ _ _ => rfl
    by_cases hx : x < k.n
    · rw [low x hx] at h; exact .inl ⟨x,c,h⟩
    · obtain ⟨b,_,hb⟩ := high x (by omega) _ h
      exact .inl ⟨b,c,hb⟩

def GFact (P : Program) (k : Gen) : Prop := (P.globals.size ≤ k.n ∧ k.n + k.bl.length ≤ limH) ∧ ∀ (ι : Io) (w : World) (fv' : Value) (args' : List Value),VR ι (.func (.func k.f) ⟨[]⟩ ⟨[]⟩) fv' → LR ι k.args args' → WR P ι k.st w → CallR P fv' args' w fun v' w' => (∀ ι,VR ι k.v v') ∧ Kept w w'
inductive GL (P : Program) : List Gen → Prop
  | nil : GL P []
  | cons {k : Gen} {ks : List Gen} : GFact P k → GL P ks → GL P (k :: ks)
def gens (call : Value → List Value → St → Option (Value × St)) : List Gen → Value → List Value → St → Option (Value × St)
  | [],fv,args,s => call fv args s
  | k :: ks,fv,args,s => match ghit k fv args s with
    | true => some (k.v,s)
    | false => gens call ks fv args s
theorem gens_ok {P : Program} {call : Value → List Value → St → Option (Value × St)} (hc : CallOK P call) : ∀ {ks : List Gen},GL P ks → CallOK P (gens call ks)
  | _,.nil => fun fv args s v s1 h => hc fv args s v s1 h
  | _,.cons (k := k) (ks := ks) hf hs => fun fv args s v s1 h => by
    simp only [gens] at h
    split at h
    · rename_i hh
      cases h
      intro ι w fv' args' q1 q2 q3
      unfold ghit at hh
      split at hh
      · split at hh
        · cases hh
        · rename_i hg
          split at hh
          · cases hh
          · rename_i bs hbs
            split at hh
            · rename_i ht
              obtain ⟨⟨hn,hl⟩,hf⟩ := hf
              obtain ⟨m1,_,m3⟩ := (mv_ok 40).2 _ _ _ _ hbs ⟨List.nodup_nil,fun x hx => by cases hx⟩
              have hcan := q3.canon m1 ht hh hn hl
              rw [beqN hg] at q1
              have q1' : VR (ιc k.n bs ι) (.func (.func k.f) ⟨[]⟩ ⟨[]⟩) fv' := by
                cases q1 with
                | func a b c =>
                  cases b
                  cases c
                  exact .func a .nil .nil
              refine CallR.mono (hf _ w fv' args' q1' (m3 ι _ q2) hcan) ?_
              rintro v' w' ⟨hv,hk⟩
              exact ⟨ι,hv ι,Po.kept q3 hk⟩
            · cases hh
      · cases hh
    · exact gens_ok hc hs fv args s v s1 h

end
end Go.Sim
namespace Go.Sim
set_option linter.all false
open Go
variable [Rho] [Asm] [SymOK]
noncomputable section

structure GenW where
  g : Gen
  i : Nat
  out : LO
def gbind (k : Gen) (fv : Value) (args : List Value) (s : St) : Option (List Nat) := match fv with
  | .func (.func g) ⟨[]⟩ ⟨[]⟩ => match Nat.beq g k.f with
    | false => none
    | true => match mvL k.n 40 k.args args [] with
      | none => none
      | some bs => match tchk s k.n k.tb with
        | true => match bchk s k.n k.bl bs with
          | true => some bs
          | false => none
        | false => none
  | _ => none
def GWFact (P : Program) (k : GenW) : Prop := (P.globals.size ≤ k.g.n ∧ k.g.n + k.g.bl.length ≤ limH) ∧ ∀ (ι : Io) (w : World) (fv' : Value) (args' : List Value),VR ι (.func (.func k.g.f) ⟨[]⟩ ⟨[]⟩) fv' → LR ι k.g.args args' → WR P ι k.g.st w →
  CallR P fv' args' w fun v' w' => (∀ ι,VR ι k.g.v v') ∧ ∃ r c x,ι (k.g.n + k.i) = some (r,c) ∧ (∀ ι,OR P ι c k.out x) ∧ w'.heap[r]? = some x ∧ w'.os = w.os ∧ w'.tape = w.tape ∧ w'.output = w.output ∧ w.heap.size ≤ w'.heap.size ∧ ∀ j,j < w.heap.size → j ≠ r → w'.heap[j]? = w.heap[j]?
inductive GWL (P : Program) : List GenW → Prop
  | nil : GWL P []
  | cons {k : GenW} {ks : List GenW} : GWFact P k → GWL P ks → GWL P (k :: ks)
def genws (call : Value → List Value → St → Option (Value × St)) : List GenW → Value → List Value → St → Option (Value × St)
  | [],fv,args,s => call fv args s
  | k :: ks,fv,args,s => match gbind k.g fv args s with
    | none => genws call ks fv args s
    | some bs => match nthN bs k.i with
      | none => none
      | some b => s.putK b (some k.out) fun s => some (k.g.v,s)
theorem genws_ok {P : Program} {call : Value → List Value → St → Option (Value × St)} (hc : CallOK P call) : ∀ {ks : List GenW},GWL P ks → CallOK P (genws call ks)
  | _,.nil => fun fv args s v s1 h => hc fv args s v s1 h
  | _,.cons (k := k) (ks := ks) hf hs => fun fv args s v s1 h => by
    simp only [genws] at h
    split at h
    · exact genws_ok hc hs fv args s v s1 h
    · rename_i bs hbs
      split at h
      · cases h
      · rename_i b hb
        rw [St.putK_eq] at h
        cases h
        intro ι w fv' args' q1 q2 q3
        unfold gbind at hbs
        split at hbs
        · split at hbs
          · cases hbs
          · rename_i hg
            split at hbs
            · cases hbs
            · rename_i bs0 hm
              split at hbs
              · rename_i ht
                split at hbs
                · rename_i hbc
                  cases hbs
                  obtain ⟨⟨hn,hl⟩,hf⟩ := hf
                  obtain ⟨m1,_,m3⟩ := (mv_ok 40).2 _ _ _ _ hm ⟨List.nodup_nil,fun x hx => by cases hx⟩
                  have hcan := q3.canon m1 ht hbc hn hl
                  rw [beqN hg] at q1
                  have q1' : VR (ιc k.g.n bs ι) (.func (.func k.g.f) ⟨[]⟩ ⟨[]⟩) fv' := by
                    cases q1 with
                    | func a b c =>
                      cases b
                      cases c
                      exact .func a .nil .nil
                  refine CallR.mono (hf _ w fv' args' q1' (m3 ι _ q2) hcan) ?_
                  rintro v' w' ⟨hv,r,c,x,hr,hor,hx,ho1,ho2,ho3,hsz,hfr⟩
                  rw [nthN_eq] at hb
                  have hib : ι b = some (r,c) := by
                    unfold ιc at hr
                    have hlt : Nat.blt (k.g.n + k.i) k.g.n = false := by
                      cases hq : Nat.blt (k.g.n + k.i) k.g.n with
                      | false => rfl
                      | true => have := blt_true hq; omega
                    rw [hlt] at hr
                    simp only at hr
                    have e : Nat.sub (k.g.n + k.i) k.g.n = k.i := Nat.add_sub_cancel_left ..
                    rw [e,nthN_eq,hb] at hr
                    exact hr
                  obtain ⟨b1,b2⟩ := bchk_ok hbc
                  have hlive : s.h.get b ≠ none := by
                    have hi : k.i < k.g.bl.length := by rw [← b1]; exact (List.getElem?_eq_some_iff.1 hb).1
                    obtain ⟨b',e1,e2,_⟩ := b2 k.i _ (List.getElem?_eq_getElem hi)
                    rw [hb] at e1
                    cases e1
                    rw [e2]; simp
                  have hrl := q3.bound _ _ _ hib
                  have hp1 := Po.put q3 hlive hib (o := k.out) (hor ι) (upd_set (x := x) hrl)
                  have hk : Kept { w with heap := w.heap.setIfInBounds r x } w' := ⟨ho1,ho2,ho3,by simpa using hsz,fun j hj => by
                    simp only [Array.size_setIfInBounds] at hj
                    by_cases hjr : j = r
                    · subst hjr; rw [hx]; simp [hj]
                    · rw [hfr j hj hjr]; simp [Ne.symm hjr]⟩
                  exact ⟨ι,hv ι,hp1.trans (Po.kept hp1.wr hk)⟩
                · cases hbs
              · cases hbs
        · cases hbs

end
end Go.Sim
