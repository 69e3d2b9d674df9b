/- Part 7 of the proof: AlQ, SpoL, StepL. -/
import Derived.Deep.WholeRow
import Derived.Test.YtolabejbhaeddaaW01
import Derived.Test.YtolabejbhaeddaaW06
import Derived.Test.YtolabejbhaeddaaW02
/- The law ReedAll: work.fine by hand; StrokesOf with its capacity. -/
namespace Go.Proofs.Ytolabejbhaeddaa
set_option linter.all false
open Go.RowKit
def QFI (J : Jb) (w0 : World) : Exit → Act → World → Prop := bodyPost Try.prog Try.f63 fun e w' => e = .returned (.int .i64 (fineI J J.tg)) ∧ Below w0.heap.size w0 w'
noncomputable def fibody : Code := Try.f63.body.getD .skip
noncomputable def firest1 : Code := sndB fibody
noncomputable def firest2 : Code := sndB firest1
noncomputable def firest3 : Code := sndB firest2
set_option maxRecDepth 1000000 in
theorem fibody_eq : fibody = .seq (Code.region 0 #[⟨some 1,.box 104 (.tmp 0),0,"stroke.go:152",#[],none⟩,⟨some 2,.assign (.const (.int .i64 0)),3,"stroke.go:152",#[],none⟩] false) firest1 := by kernel_rfl
set_option maxRecDepth 1000000 in
theorem firest1_eq : firest1 = .seq (Code.region 1 #[⟨some 5,.fieldAddr 104 (.tmp 1) 0,0,"stroke.go:153",#[],none⟩,⟨some 6,.load 30 (.tmp 5),30,"stroke.go:153",#[⟨0,.data⟩],none⟩,⟨some 7,.call { callee := .value (.func 64),args := #[.tmp 6],argTypes := #[30] },3,"stroke.go:153",#[⟨1,.data⟩],none⟩,⟨some 8,.load 104 (.tmp 1),104,"stroke.go:153",#[],none⟩,⟨some 9,.call { callee := .value (.func 62),args := #[.tmp 8],argTypes := #[104] },3,"stroke.go:153",#[⟨3,.data⟩,⟨2,.chain⟩],none⟩,⟨some 3,.assign (.tmp 7),3,"stroke.go:153",#[⟨2,.data⟩,⟨4,.chain⟩,⟨0,.phase⟩,⟨1,.phase⟩,⟨2,.phase⟩,⟨3,.textOnly .lateStores⟩,⟨4,.textOnly .lateStoresUnsure⟩],none⟩,⟨some 4,.assign (.tmp 9),3,"stroke.go:153",#[⟨4,.data⟩,⟨5,.chain⟩,⟨0,.phase⟩,⟨1,.phase⟩,⟨2,.phase⟩,⟨3,.phase⟩,⟨4,.phase⟩,⟨5,.phase⟩],none⟩] true) firest2 := by kernel_rfl
set_option maxRecDepth 1000000 in
theorem firest2_eq : firest2 = .seq (.block 0 (.seq (Code.region 2 #[⟨some 11,.move (.tmp 3),3,"stroke.go:155",#[],none⟩,⟨some 12,.binOp .eql 3 (.tmp 11) (.const (.int .i64 1)) 3,4,"stroke.go:155",#[⟨0,.data⟩],none⟩,⟨some 13,.move (.tmp 12),4,"stroke.go:155",#[⟨1,.data⟩],none⟩,⟨some 14,.move (.tmp 4),3,"stroke.go:155",#[⟨2,.guard⟩],some (2,true)⟩,⟨some 15,.binOp .eql 3 (.tmp 14) (.const (.int .i64 2)) 3,4,"stroke.go:155",#[⟨3,.data⟩,⟨2,.guard⟩],some (2,true)⟩,⟨some 16,.pick (.tmp 13) (.tmp 15) (.const (.bool false)),4,"stroke.go:155",#[⟨2,.data⟩,⟨4,.data⟩],none⟩,⟨some 10,.assign (.tmp 16),4,"stroke.go:155",#[⟨5,.data⟩,⟨2,.chain⟩],none⟩] false) (.cond (.tmp 10) (.seq (Code.region 3 #[⟨some 2,.assign (.const (.int .i64 1)),3,"stroke.go:156",#[],none⟩] false) .ret) (.seq (Code.region 4 #[⟨some 18,.move (.tmp 3),3,"stroke.go:157",#[],none⟩,⟨some 19,.binOp .eql 3 (.tmp 18) (.const (.int .i64 2)) 3,4,"stroke.go:157",#[⟨0,.data⟩],none⟩,⟨some 20,.move (.tmp 19),4,"stroke.go:157",#[⟨1,.data⟩],none⟩,⟨some 21,.move (.tmp 4),3,"stroke.go:157",#[⟨2,.guard⟩],some (2,false)⟩,⟨some 22,.binOp .eql 3 (.tmp 21) (.const (.int .i64 1)) 3,4,"stroke.go:157",#[⟨3,.data⟩,⟨2,.guard⟩],some (2,false)⟩,⟨some 23,.pick (.tmp 20) (.const (.bool true)) (.tmp 22),4,"stroke.go:157",#[⟨2,.data⟩,⟨4,.data⟩],none⟩,⟨some 17,.assign (.tmp 23),4,"stroke.go:157",#[⟨5,.data⟩,⟨2,.chain⟩],none⟩] false) (.cond (.tmp 17) (.seq (Code.region 5 #[⟨some 2,.assign (.const (.int .i64 2)),3,"stroke.go:158",#[],none⟩] false) .ret) .skip))))) firest3 := by kernel_rfl
set_option maxRecDepth 1000000 in
theorem firest3_eq : firest3 = .seq (Code.region 6 #[⟨some 2,.assign (.const (.int .i64 3)),3,"stroke.go:160",#[],none⟩] false) .ret := by kernel_rfl
set_option maxHeartbeats 9000000 in
set_option maxRecDepth 1000000 in
theorem fine_hand : FineOK := by
  intro J a n c w hJ hn hrg
  have q : Below w.heap.size w (w.alloc (.cells (jobC J (.slice a n c)) 104)) := (Below.refl _ _).alloc (Nat.le_refl _) _
  have HB := hidMk (Bk.new w 104 (jobC J (.slice a n c)))
  have HR := hidMk (hrg.up q)
  have HJ := hidMk hJ
  have HN := hidMk hn
  have HQ := hidMk q
  have hfin : ∀ p s : Int,p = passI J.wi J.sh J.p1 J.p2 → s = spoilI J.le J.tg → fineI J J.tg = if p = 1 ∧ s = 2 then 1 else if p = 2 ∨ s = 1 then 2 else 3 := by
    intro p s hp hs
    rw [hp,hs]
    rfl
  have HF := hidMk hfin
  have hp3 := pass_three J.wi J.sh J.p1 J.p2
  have hs3 := spoil_three J.le J.tg
  have HP3 := hidMk hp3
  have HS3 := hidMk hs3
  clear hJ hn hrg q hfin hp3 hs3
  go_enter Try.func63,Try.ntmps63
  show Code.wp Try.prog fibody (QFI J w) _ _
  rw [fibody_eq]
  go_wp2_with fail
  generalize hG : w.heap.size = g1 at HB ⊢
  generalize hW : w.alloc (.cells (jobC J (.slice a n c)) 104) = w1 at HB HR HQ ⊢
  clear hG hW
  rw [firest1_eq]
  refine wp_seq_k fun K0 hK0 => ?_
  refine region_via (R := fun a_ e_ a' w' => e_ = .normal ∧ ∃ (v5 v6 v7 v8 v9 : Value),a' = (((((((a_.put (some 5) v5).put (some 6) v6).put (some 7) v7).put (some 8) v8).put (some 9) v9).put (some 3) (.int .i64 (passI J.wi J.sh J.p1 J.p2))).put (some 4) (.int .i64 (spoilI J.le J.tg))) ∧ Below w1.heap.size w1 w') ?_ ?_
  rotate_left
  · rintro e_ a' w' ⟨rfl,v5,v6,v7,v8,v9,rfl,hb⟩
    simp only [Act.put,aT,aZ,aS]
    refine hK0 _ _ ?_
    have HZ := hidMk (HQ.out.trans (hb.mono HQ.out.size))
    clear hK0 hb
    obtain ⟨p,hp⟩ : ∃ p,p = passI J.wi J.sh J.p1 J.p2 := ⟨_,rfl⟩
    obtain ⟨s,hs⟩ : ∃ s,s = spoilI J.le J.tg := ⟨_,rfl⟩
    have HF2 := hidMk (HF.out p s hp hs)
    have p3 := HP3.out
    have s3 := HS3.out
    rw [← hp] at p3 ⊢
    rw [← hs] at s3 ⊢
    clear hp hs
    unfold QFI
    rw [firest2_eq]
    rcases p3 with rfl | rfl | rfl <;> rcases s3 with rfl | rfl | rfl
    all_goals
      go_wp2_with fail
      (try (rw [firest3_eq]; go_wp2_with fail))
      go_ret
      exact ⟨by rw [HF2.out]; rfl,HZ.out⟩
  have hS : Below w1.heap.size w1 w1.drew := (Below.refl _ _).drew
  refine wp_region_held_drew (S := fun w' => Below w1.heap.size w1 w') (by kernel_rfl) hS (fun hS0 => ?_)
  clear hS0
  generalize w1.drew = wd at hS ⊢
  refine wpAnyH_take (i := 0) (v := ?_) rfl (by kernel_rfl) (by kernel_rfl) (by kernel_rfl) (fun _ _ _ h => by cases h.1) (.inl ⟨by rfl,?_⟩) (by assumption) ?_
  rotate_left
  · (intro w' hSw; (try dsimp only at hSw); skip; go_simp <;> with_reducible rfl)
  (try simp only [Act.put,aT,aZ,aS])
  refine wpAnyH_take (i := 1) rfl (by kernel_rfl) (by kernel_rfl) (by kernel_rfl) (fun _ _ _ h => by cases h.1) (yields_row (by rfl) 30 _ rfl g1 (jobC J (.slice a n c)) rfl 104 (fun w' hw => HB.out.below hw HB.out.lt) Try.underlying30 szJob) (by assumption) ?_
  (try simp only [Act.put,aT,aZ,aS])
  refine wpAnyH_take (i := 3) rfl (by kernel_rfl) (by kernel_rfl) (by kernel_rfl) (fun _ _ _ h => by cases h.1) (yields_row (by rfl) 104 _ rfl g1 (jobC J (.slice a n c)) rfl 104 (fun w' hw => HB.out.below hw HB.out.lt) Try.underlying104 szWork) (by assumption) ?_
  (try simp only [Act.put,aT,aZ,aS])
  refine wpAnyH_ready (rs := [2]) (by kernel_rfl) (by simp) ?_
  refine AllReadyH.cons rfl (fun K hK => ?_) ?_
  · go_simp
    go_at_call 64
    refine (passes_any J a n c _ HJ.out HN.out (HR.out.up hS)).mono ?_
    rintro e' wX ⟨rfl,hbX⟩
    have hS_ := hS.trans (hbX.mono hS.size)
    clear hbX hS
    have hS := hS_
    clear hS_
    go_wp2_with fail
    refine hK.out _ _ hS (fun _ => ?_)
    clear hK K
    (try simp only [Act.put,aT,aZ,aS])
    refine wpAnyH_ready (rs := [4]) (by kernel_rfl) (by simp) ?_
    refine AllReadyH.cons rfl (fun K hK => ?_) ?_
    · go_simp
      go_at_call 62
      refine (spoiled_any J (.slice a n c) _).mono ?_
      rintro e' wY ⟨rfl,rfl⟩
      have hS_ := hS.alloc hS.size (.cells (jobC J (.slice a n c)) 104)
      clear hS
      have hS := hS_
      clear hS_
      go_wp2_with fail
      refine hK.out _ _ hS (fun _ => ?_)
      clear hK K
      (try simp only [Act.put,aT,aZ,aS])
      refine wpAnyH_take (i := 5) (v := ?_) rfl (by kernel_rfl) (by kernel_rfl) (by kernel_rfl) (fun _ _ _ h => by cases h.1) (.inl ⟨by rfl,?_⟩) (by assumption) ?_
      rotate_left
      · (intro w' hSw; (try dsimp only at hSw); skip; go_simp <;> with_reducible rfl)
      (try simp only [Act.put,aT,aZ,aS])
      refine wpAnyH_take (i := 6) (v := ?_) rfl (by kernel_rfl) (by kernel_rfl) (by kernel_rfl) (fun _ _ _ h => by cases h.1) (.inl ⟨by rfl,?_⟩) (by assumption) ?_
      rotate_left
      · (intro w' hSw; (try dsimp only at hSw); skip; go_simp <;> with_reducible rfl)
      (try simp only [Act.put,aT,aZ,aS])
      refine wpAnyH_done (by kernel_rfl) ?_ _
      exact ⟨rfl,_,_,_,_,_,rfl,hS⟩
    exact AllReadyH.nil
  exact AllReadyH.nil
theorem own_le {w : World} {B e s n m c : Nat} {a : Option Addr} {xs : List Value} (h : w.ownsRow B e s (.slice a m c) n xs) : n ≤ c := by
  rcases h.2 with ⟨h1,h2⟩ | ⟨g,cap,cur,h1,_,_,h3,_⟩
  · cases h1
    omega
  · cases h1
    exact h3
set_option maxHeartbeats 2000000 in
set_option maxRecDepth 100000 in
theorem strokesC_any (M : Int) (hM : 0 ≤ M ∧ M ≤ 6) (b : Nat) (w : World) (hp : Pt w b) :
    Calls Try.prog 23 #[.pointer (some ⟨b,0,none⟩),.int .i64 M] w fun e w' => ∃ (a : Option Addr) (n c : Nat) (l : List Int),e = .returned (.slice a n c) ∧ n = l.length ∧ (n : Int) ≤ M ∧ (∀ x ∈ l,x = 1 ∨ x = 2) ∧ Is w' w'.heap.size a l ∧ n ≤ c ∧ PB b w.heap.size w w' ∧ Pt w' b := by
  have hlt := hp.lt
  obtain ⟨i0,hi,hz0,hz1,hz2⟩ := info_parts infoInt
  have Hi : Hid (Try.prog.info? 3 = some i0) := hi
  have Hz0 : Hid (i0.zero = some (.int .i64 0)) := hz0
  have Hz1 : Hid (i0.size = 1) := hz1
  have Hz2 : Hid (i0.bytes = 8) := hz2
  clear hi hz0 hz1 hz2
  go_enter Try.func23,Try.ntmps23
  go_wp2_with fail
  refine (uptoP b M _ hp (by omega)).mono ?_
  rintro e w1 ⟨m,rfl,⟨hm1,hm2⟩,hk1,hp1⟩
  go_wp2_with fail
  have hz1 := hk1.size
  have hlt1 := hp1.lt
  go_loopw [5,6] (fun v i wr => ∃ (k : Nat) (j : Int) (l : List Int),(j + k = m ∧ 0 ≤ j) ∧ i = .int .i64 j ∧ l.length = k ∧ (∀ x ∈ l,x = 1 ∨ x = 2) ∧ wr.ownsRow w1.heap.size 3 1 v k (l.map (Value.int .i64)) ∧ PB b w.heap.size w wr ∧ Pt wr b ∧ w1.heap.size ≤ wr.heap.size) (fun _ i _ => (intOf i).toNat)
  case atStart => exact ⟨0,m,[],⟨by omega,hm1⟩,rfl,rfl,by simp,World.ownsRow_nil _ _ _ _,hk1,hp1,Nat.le_refl _⟩
  case round =>
    obtain ⟨k,j,l,⟨hj1,hj2⟩,rfl,hlk,hl12,own,hPB,hpr,hzr⟩ := hrel
    have hltr := hpr.lt
    by_cases hlt : 0 < j
    · have Ho := hidMk own
      have Hl := hidMk hl12
      have Hlk := hidMk hlk
      clear own hl12 hlk
      go_wp2_with (first
        | (go_at_call 21; refine (of2P b wr.heap.size 1 2 _ _ (hpr.alloc _) (by omega) (Bk.new _ _ _)).mono ?_; rintro e w2 ⟨x,rfl,hx,hk2,hp2⟩; have hz2 := hk2.size; simp only [World.size_alloc] at hz2; have O2 := hidMk (own_pb (Ho.out.alloc _) (by omega) hk2); have K2 := hidMk ((hPB.alloc (by omega) _).trans hk2 (by simp; omega)))
        | (at_builtin; refine wpList_append_own_at _ rfl (.tmp 14) (.tmp 18) 31 rfl w1.heap.size 3 i0 (.int .i64 0) 1 8 Try.underlying31 Hi.out Hz0.out Hz1.out Hz2.out rfl (by decide) _ k _ rfl (O2.out.alloc _) ⟨w2.heap.size,0,none⟩ 1 1 [.int .i64 x] rfl rfl (news_one (Bk.new _ _ _)) (by simp [Value.oneCell']) (by unfold maxLen; omega) (by omega) (by simp; omega) ?_; intro v' w3 own' hg _ at_; have hz3 := hg.size; simp only [World.size_alloc] at hz3; have O3 := hidMk own'; clear own'; have hr : ∀ g,Value.ownBlock _ = some g → w1.heap.size ≤ g := (fun g e => (O2.out.lt g e).1)))
      go_roundw
      case rel =>
        refine ⟨k + 1,j - 1,l ++ [x],⟨by omega,by omega⟩,by go_num,by rw [List.length_append]; simp [Hlk.out],?_,?_,?_,?_,?_⟩
        · intro y hy
          rcases List.mem_append.1 hy with hy | hy
          · exact Hl.out y hy
          · rw [List.mem_singleton.1 hy]; exact hx
        · rw [List.map_append]
          exact O3.out
        · exact (K2.out.alloc (by omega) _).grownTo hg (by simp; omega) (fun g e => by have := hr g e; omega)
        · exact (hp2.alloc _).grown hg (fun e => by have := hr b e.symm; omega)
        · omega
      case measure => simp [intOf]; omega
    · obtain rfl : j = 0 := by omega
      obtain ⟨a,c,rfl,hn,his⟩ := Is.of_own own
      have hkc := own_le own
      clear own
      go_wp2_with fail
      go_ret
      exact ⟨a,k,c,l,rfl,hn,by omega,hl12,his,hkc,hPB,hpr⟩
end Go.Proofs.Ytolabejbhaeddaa
/- The contract of reed.Spoiled on valid jobs and strokes. -/
namespace Go.Proofs.Ytolabejbhaeddaa
set_option linter.all false
open Go.RowKit
end Go.Proofs.Ytolabejbhaeddaa
/- Regions that do not draw, one law a step. -/
namespace Go.Proofs.Ytolabejbhaeddaa
set_option linter.all false
open Go.RowKit
section
variable {P : Program} {ops : Array Oper} {Q : Exit → Act → World → Prop} {a : Act} {w : World} {i : Nat} {rest : List Nat} {o : Oper}
theorem wp_region_l {id : Nat} (l : List Nat) (hl : List.range ops.size = l) (h : wpOps P ops Q l a w) : (Code.region id ops false).wp P Q a w := wp_region (by rw [hl]; exact h)
theorem opsL_take {v : Value} (ho : ops[i]? = some o) (hw : Region.wanted o (yielded ops a.tmps) = true) (hv : (execOp a.eval o).run P w = .ok (.value v) w) (h : wpOps P ops Q rest (a.put o.dst v) w) : wpOps P ops Q (i :: rest) a w := by
  simp only [wpOps,ho,hw,if_true]
  exact .inl (by simp only [Oper.wp,hv,Oper.upon]; exact h)
theorem opsL_step (ho : ops[i]? = some o) (h : ∀ K' : Act → World → Prop,Shut (∀ a w,wpOps P ops Q rest a w → K' a w) → if Region.wanted o (yielded ops a.tmps) = true then Oper.wp P o a w K' Q else K' (a.put o.dst undef) w) : wpOps P ops Q (i :: rest) a w := by
  have := h (wpOps P ops Q rest) (fun _ _ h => h)
  simp only [wpOps,ho]
  split
  · rename_i hw
    rw [if_pos hw] at this
    exact .inl this
  · rename_i hw
    rw [if_neg hw] at this
    exact this
end
end Go.Proofs.Ytolabejbhaeddaa
