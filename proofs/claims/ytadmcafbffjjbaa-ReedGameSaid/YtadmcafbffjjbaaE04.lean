/- Part 4 of the proof: BmH, BmI, BmJ, BmK, BmL, GP. -/
import Derived.Deep.WholeRow
import Derived.LoopN
import Derived.Test.YtadmcafbffjjbaaE03
import Derived.Test.YtadmcafbffjjbaaE01
import Derived.Test.YtadmcafbffjjbaaE00
namespace Go.Proofs.Ytadmcafbffjjbaa
set_option linter.all false
open Go.RowKit Go.Shelf
theorem ch_sp {J : Jb} {k : Nat} {t T : Tg} {m : Int × Int} {st : Int} (hT : T = strk J t st) (hs : spoilI J.le T ≠ 2) : (choose J (fun t => (bestM J k t).2) t m st) = m := by
  subst hT
  unfold choose
  rw [if_pos hs]
theorem DS.below {lo : Nat} {ds : List Deferred} {w w' : World} (h : DS lo w.heap.size ds w) (hb : Below w.heap.size w w') : DS lo w'.heap.size ds w' := ⟨fun d hm => by
  obtain ⟨D,e,h1,h2,h3⟩ := h.1 d hm
  exact ⟨D,e,h1,Nat.lt_of_lt_of_le h2 hb.size,(hb.block D h2).trans h3⟩,h.2⟩
set_option maxHeartbeats 4000000 in
set_option maxRecDepth 1000000 in
theorem bm_mb3 {J : Jb} {sa : Option Addr} {sn sc : Nat} {Bw Bf Bj Bb bm k cnt : Nat} {t : Tg} {W : World} {g5 g6 g7 g9 : Nat} {m : Int × Int} {T : Tg} {g12 c : Nat} {ds : List Deferred} {w : World} {st : Int} {arr idx : Value} {Q : Exit → Act → World → Prop} {u0 u8 A0 A3 A4 A5 A6 A7 A8 A9 Aa Ab Ac Ad Ae Af Ag Ah Ai Aj Ak Al Am An Ao Ap Aq Ar As At Aw Ax Ay Az C0 C1 C2 C3 C4 C5 C6 C7 C8 C9 Ca Cb Cc Cd Ce Cf Cg Ch Ci Cj Ck Cl Cm Cn Co Cp Cq Cr Cs Ct Cu Cv Cw Cx Cy Cz D0 D1 D2 D3 D4 D5 : Value}
    (ih : BestOK J (.slice sa sn sc) Bw Bf Bj Bb bm k) (HE : Env J (.slice sa sn sc) Bw Bf Bj Bb bm W) (HM : Memo J W bm cnt) (hs : BS J (.slice sa sn sc) bm k t W g5 g6 g7 g9 m w) (hd : DS W.heap.size w.heap.size ds w) (hm : ∃ d,d ≤ c ∧ Memo J w bm d) (hcs : c + 1000 * cost k ≤ 1000000000000000) (hk4 : k ≤ 4) (hme : 0 ≤ J.me ∧ J.me ≤ 6)
    (h12 : Bk w g12 104 (jobC (J.setTg T) (.slice sa sn sc))) (hT : TgIn k T) (hTT : T = strk J t st) (hsp : spoilI J.le T = 2)
    (hf : W.heap.size ≤ g12 ∧ g12 ≠ g5 ∧ g12 ≠ g6 ∧ g12 ≠ g7 ∧ g12 ≠ g9) (hQ : MQ J (.slice sa sn sc) Bw Bf Bj Bb bm k t W g5 g6 g7 g9 (c + 1000 * cost k) (choose J (fun t => (bestM J k t).2) t m st) arr idx Q) : Code.wp Try.prog mb3 Q ⟨#[u0,(.pointer (some ⟨Bw,0,none⟩)),(.pointer (some ⟨Bf,0,none⟩)),(.pointer (some ⟨Bj,0,none⟩)),(.pointer (some ⟨Bb,0,none⟩)),(.pointer (some ⟨g5,0,none⟩)),(.pointer (some ⟨g6,0,none⟩)),(.pointer (some ⟨g7,0,none⟩)),u8,(.pointer (some ⟨g9,0,none⟩)),A0,(.int .i64 st),(.pointer (some ⟨g12,0,none⟩)),A3,A4,A5,A6,A7,A8,A9,Aa,Ab,Ac,Ad,Ae,Af,Ag,Ah,Ai,Aj,Ak,Al,Am,An,Ao,Ap,Aq,Ar,As,At,arr,idx,Aw,Ax,Ay,Az,C0,C1,C2,C3,C4,C5,C6,C7,C8,C9,Ca,Cb,Cc,Cd,Ce,Cf,Cg,Ch,Ci,Cj,Ck,Cl,Cm,Cn,Co,Cp,Cq,Cr,Cs,Ct,Cu,Cv,Cw,Cx,Cy,Cz,D0,D1,D2,D3,D4,D5],ds⟩ w := by
  rw [mb3_eq]
  have HS := hidMk hs
  have HD := hidMk hd
  have HMM := hidMk hm
  have HQ := hidMk hQ
  have HC := hidMk hcs
  have HME := hidMk hme
  have H12 := hidMk h12
  have HT := hidMk hT
  have HTT := hidMk hTT
  have HSP := hidMk hsp
  have HF := hidMk hf
  clear hs hd hm hQ hcs hme h12 hT hTT hsp hf
  go_wp2_with fail
  have q1 : Below w.heap.size w (w.alloc (.cells #[.int .i64 0] 3)) := (Below.refl _ _).alloc (Nat.le_refl _) _
  obtain ⟨d,hd1,hd2⟩ := HMM.out
  have l5 := HS.out.b5.lt
  have l6 := HS.out.b6.lt
  have l7 := HS.out.b7.lt
  have l9 := HS.out.b9.lt
  have hz := HS.out.gr.size
  exact bm_mb4 ih HE HM (HS.out.below q1) (HD.out.below q1) ⟨d,hd1,hd2.kept (grown_of_below q1 none) (by simp)⟩ HC.out hk4 HME.out (H12.out.below q1 H12.out.lt) (Bk.new _ _ _) HT.out HTT.out HSP.out ⟨HF.out,by omega⟩ HQ.out
set_option maxHeartbeats 4000000 in
set_option maxRecDepth 1000000 in
theorem bm_mb2 {J : Jb} {sa : Option Addr} {sn sc : Nat} {Bw Bf Bj Bb bm k cnt : Nat} {t : Tg} {W : World} {g5 g6 g7 g9 : Nat} {m : Int × Int} {T : Tg} {g12 c : Nat} {ds : List Deferred} {w : World} {st : Int} {arr idx : Value} {Q : Exit → Act → World → Prop} {u0 u8 A0 A3 A4 A5 A6 A7 A8 A9 Aa Ab Ac Ad Ae Af Ag Ah Ai Aj Ak Al Am An Ao Ap Aq Ar As At Aw Ax Ay Az C0 C1 C2 C3 C4 C5 C6 C7 C8 C9 Ca Cb Cc Cd Ce Cf Cg Ch Ci Cj Ck Cl Cm Cn Co Cp Cq Cr Cs Ct Cu Cv Cw Cx Cy Cz D0 D1 D2 D3 D4 D5 : Value}
    (ih : BestOK J (.slice sa sn sc) Bw Bf Bj Bb bm k) (HE : Env J (.slice sa sn sc) Bw Bf Bj Bb bm W) (HM : Memo J W bm cnt) (hs : BS J (.slice sa sn sc) bm k t W g5 g6 g7 g9 m w) (hd : DS W.heap.size w.heap.size ds w) (hm : ∃ d,d ≤ c ∧ Memo J w bm d) (hcs : c + 1000 * cost k ≤ 1000000000000000) (hk4 : k ≤ 4) (hme : 0 ≤ J.me ∧ J.me ≤ 6)
    (h12 : Bk w g12 104 (jobC (J.setTg T) (.slice sa sn sc))) (hT : TgIn k T) (hTT : T = strk J t st) 
    (hf : W.heap.size ≤ g12 ∧ g12 ≠ g5 ∧ g12 ≠ g6 ∧ g12 ≠ g7 ∧ g12 ≠ g9) (hQ : MQ J (.slice sa sn sc) Bw Bf Bj Bb bm k t W g5 g6 g7 g9 (c + 1000 * cost k) (choose J (fun t => (bestM J k t).2) t m st) arr idx Q) : Code.wp Try.prog mb2 Q ⟨#[u0,(.pointer (some ⟨Bw,0,none⟩)),(.pointer (some ⟨Bf,0,none⟩)),(.pointer (some ⟨Bj,0,none⟩)),(.pointer (some ⟨Bb,0,none⟩)),(.pointer (some ⟨g5,0,none⟩)),(.pointer (some ⟨g6,0,none⟩)),(.pointer (some ⟨g7,0,none⟩)),u8,(.pointer (some ⟨g9,0,none⟩)),A0,(.int .i64 st),(.pointer (some ⟨g12,0,none⟩)),A3,A4,A5,A6,A7,A8,A9,Aa,Ab,Ac,Ad,Ae,Af,Ag,Ah,Ai,Aj,Ak,Al,Am,An,Ao,Ap,Aq,Ar,As,At,arr,idx,Aw,Ax,Ay,Az,C0,C1,C2,C3,C4,C5,C6,C7,C8,C9,Ca,Cb,Cc,Cd,Ce,Cf,Cg,Ch,Ci,Cj,Ck,Cl,Cm,Cn,Co,Cp,Cq,Cr,Cs,Ct,Cu,Cv,Cw,Cx,Cy,Cz,D0,D1,D2,D3,D4,D5],ds⟩ w := by
  rw [mb2_eq]
  have HS := hidMk hs
  have HD := hidMk hd
  have HMM := hidMk hm
  have HQ := hidMk hQ
  have HC := hidMk hcs
  have HME := hidMk hme
  have H12 := hidMk h12
  have HT := hidMk hT
  have HTT := hidMk hTT
  have HF := hidMk hf
  clear hs hd hm hQ hcs hme h12 hT hTT hf
  obtain ⟨sp,hsp⟩ : ∃ sp,sp = spoilI J.le T := ⟨_,rfl⟩
  have hsq : spoilI (J.setTg T).le (J.setTg T).tg = sp := hsp.symm
  have HSP := hidMk hsp
  have HSQ := hidMk hsq
  clear hsp hsq
  have q1 : Below w.heap.size w (w.alloc (.cells (jobC (J.setTg T) (.slice sa sn sc)) 104)) := (Below.refl _ _).alloc (Nat.le_refl _) _
  obtain ⟨d,hd1,hd2⟩ := HMM.out
  cases hb : (sp == 2)
  · have hne : spoilI J.le T ≠ 2 := by rw [← HSP.out]; simpa using hb
    have HCH := hidMk (ch_sp (k := k) (m := m) HTT.out hne)
    clear hne
    go_wp2_with (first | (refine wpList_load_row rfl 104 _ rfl g12 rfl _ (jobC (J.setTg T) (.slice sa sn sc)) _ _ H12.out Try.underlying104 rfl szWork ?_) | (go_at_call 62; refine (spoiled_any (J.setTg T) (.slice sa sn sc) _).mono ?_; rintro e w2 ⟨rfl,rfl⟩; rw [HSQ.out]))
    have hQ := HQ.out
    rw [HCH.out] at hQ
    exact hQ _ _ _ _ _ _ _ _ _ _ _ _ _ _ _ _ _ _ _ _ _ _ _ _ _ _ _ _ _ _ _ _ _ _ _ _ _ _ _ _ _ _ _ _ _ _ _ _ _ _ _ _ _ _ _ _ _ _ _ _ _ _ _ _ _ _ _ _ _ _ _ _ _ _ _ _ _ _ _ _ (HS.out.below q1) (HD.out.below q1) ⟨d,by omega,hd2.kept (grown_of_below q1 none) (by simp)⟩ (.exit 1) (.inr rfl)
  · have heq : spoilI J.le T = 2 := by rw [← HSP.out]; simpa using hb
    have HEQ := hidMk heq
    clear heq
    go_wp2_with (first | (refine wpList_load_row rfl 104 _ rfl g12 rfl _ (jobC (J.setTg T) (.slice sa sn sc)) _ _ H12.out Try.underlying104 rfl szWork ?_) | (go_at_call 62; refine (spoiled_any (J.setTg T) (.slice sa sn sc) _).mono ?_; rintro e w2 ⟨rfl,rfl⟩; rw [HSQ.out]))
    exact bm_mb3 ih HE HM (HS.out.below q1) (HD.out.below q1) ⟨d,hd1,hd2.kept (grown_of_below q1 none) (by simp)⟩ HC.out hk4 HME.out (H12.out.below q1 H12.out.lt) HT.out HTT.out HEQ.out HF.out HQ.out
theorem tg_next {J : Jb} {k : Nat} {t : Tg} {st : Int} (hJ : J.In 1000) (hu : J.u1 ≤ J.u2 ∧ J.d1 ≤ J.d2) (h : TgIn (k + 1) t) : TgIn k (strk J t st) := by
  obtain ⟨h1,h2⟩ := h
  have h3 := strk_in J t st _ h1 hJ
  refine ⟨h3.mono (by omega),?_⟩
  unfold strk
  split
  · show t.p1 + J.u1 ≤ t.p2 + J.u2; omega
  · split
    · show t.p1 - J.d2 ≤ t.p2 - J.d1; omega
    · exact h2
set_option maxHeartbeats 4000000 in
set_option maxRecDepth 1000000 in
theorem bm_mb1 {J : Jb} {sa : Option Addr} {sn sc : Nat} {Bw Bf Bj Bb bm k cnt : Nat} {t : Tg} {W : World} {g5 g6 g7 g9 : Nat} {m : Int × Int} {c : Nat} {ds : List Deferred} {w : World} {st : Int} {arr idx : Value} {Q : Exit → Act → World → Prop} {u0 u8 A0 A2 A3 A4 A5 A6 A7 A8 A9 Aa Ab Ac Ad Ae Af Ag Ah Ai Aj Ak Al Am An Ao Ap Aq Ar As At Aw Ax Ay Az C0 C1 C2 C3 C4 C5 C6 C7 C8 C9 Ca Cb Cc Cd Ce Cf Cg Ch Ci Cj Ck Cl Cm Cn Co Cp Cq Cr Cs Ct Cu Cv Cw Cx Cy Cz D0 D1 D2 D3 D4 D5 : Value}
    (ih : BestOK J (.slice sa sn sc) Bw Bf Bj Bb bm k) (HE : Env J (.slice sa sn sc) Bw Bf Bj Bb bm W) (HM : Memo J W bm cnt) (hs : BS J (.slice sa sn sc) bm k t W g5 g6 g7 g9 m w) (hd : DS W.heap.size w.heap.size ds w) (hm : ∃ d,d ≤ c ∧ Memo J w bm d) (hcs : c + 1000 * cost k ≤ 1000000000000000) (hk4 : k ≤ 4) (hme : 0 ≤ J.me ∧ J.me ≤ 6)
    (hst : st = 1 ∨ st = 2) (hJ : J.In 100) (hu : J.u1 ≤ J.u2 ∧ J.d1 ≤ J.d2) (ht : TgIn (k + 1) t) (hQ : MQ J (.slice sa sn sc) Bw Bf Bj Bb bm k t W g5 g6 g7 g9 (c + 1000 * cost k) (choose J (fun t => (bestM J k t).2) t m st) arr idx Q) : Code.wp Try.prog mb1 Q ⟨#[u0,(.pointer (some ⟨Bw,0,none⟩)),(.pointer (some ⟨Bf,0,none⟩)),(.pointer (some ⟨Bj,0,none⟩)),(.pointer (some ⟨Bb,0,none⟩)),(.pointer (some ⟨g5,0,none⟩)),(.pointer (some ⟨g6,0,none⟩)),(.pointer (some ⟨g7,0,none⟩)),u8,(.pointer (some ⟨g9,0,none⟩)),A0,(.int .i64 st),A2,A3,A4,A5,A6,A7,A8,A9,Aa,Ab,Ac,Ad,Ae,Af,Ag,Ah,Ai,Aj,Ak,Al,Am,An,Ao,Ap,Aq,Ar,As,At,arr,idx,Aw,Ax,Ay,Az,C0,C1,C2,C3,C4,C5,C6,C7,C8,C9,Ca,Cb,Cc,Cd,Ce,Cf,Cg,Ch,Ci,Cj,Ck,Cl,Cm,Cn,Co,Cp,Cq,Cr,Cs,Ct,Cu,Cv,Cw,Cx,Cy,Cz,D0,D1,D2,D3,D4,D5],ds⟩ w := by
  rw [mb1_eq]
  have HS := hidMk hs
  have HD := hidMk hd
  have HMM := hidMk hm
  have HQ := hidMk hQ
  have HC := hidMk hcs
  have HME := hidMk hme
  have HT := hidMk (tg_next (st := st) (hJ.mono (by decide)) hu ht)
  have HJ := hidMk (show (J.setTg t).In 200 from hJ.setTg (ht.1.mono (by omega)))
  have HST := hidMk hst
  clear hs hd hm hQ hcs hme hst hJ hu ht
  have B9 := hidMk HS.out.b9
  go_wp2_with (first | (refine wpList_load_row rfl 104 _ rfl g9 rfl _ (jobC (J.setTg t) (.slice sa sn sc)) _ _ B9.out Try.underlying104 rfl szWork ?_))
  refine (after_any (J.setTg t) sa sn sc (some ⟨w.heap.size,0,none⟩) 1 1 [st] _ HJ.out rfl (by omega) (by simpa using HST.out) (Is.of_bk [st] (Bk.new _ _ _) (by simp))).mono ?_
  rintro e w2 ⟨rfl,hb2⟩
  have e1 : (J.setTg t).setTg (afterS (J.setTg t) (J.setTg t).tg [st]) = J.setTg (strk J t st) := rfl
  rw [e1]
  clear e1
  have q0 : Below w.heap.size w w2 := ((Below.refl _ _).alloc (Nat.le_refl _) _).trans (hb2.mono (by simp))
  have q1 : Below w.heap.size w (w2.alloc (.cells (jobC (J.setTg (strk J t st)) (.slice sa sn sc)) 104)) := q0.alloc q0.size _
  have Q1 := hidMk q1
  have HZ0 := hidMk q0.size
  clear q0 q1 hb2
  go_wp2_with (first | (refine wpList_store_row rfl 104 _ _ rfl w2.heap.size (jobC (J.setTg (strk J t st)) (.slice sa sn sc)) rfl rfl _ _ (Bk.new _ _ _) szWork rfl (oneJob _ _ _ _) ?_; rw [World.setRow_alloc_new]))
  obtain ⟨d,hd1,hd2⟩ := HMM.out
  have q1 := Q1.out
  have l5 := HS.out.b5.lt
  have l6 := HS.out.b6.lt
  have l7 := HS.out.b7.lt
  have l9 := HS.out.b9.lt
  have hz := HS.out.gr.size
  have hz1 := HZ0.out
  exact bm_mb2 (T := strk J t st) ih HE HM (HS.out.below q1) (HD.out.below q1) ⟨d,hd1,hd2.kept (grown_of_below q1 none) (by simp)⟩ HC.out hk4 HME.out (Bk.new _ _ _) HT.out rfl ⟨by omega,by omega,by omega,by omega,by omega⟩ HQ.out
end Go.Proofs.Ytadmcafbffjjbaa
namespace Go.Proofs.Ytadmcafbffjjbaa
set_option linter.all false
open Go.RowKit Go.Shelf
def RQ (J : Jb) (s : Value) (Bw Bf Bj Bb bm k : Nat) (t : Tg) (W : World) (g5 g6 g7 g9 c : Nat) (m : Int × Int) (Q : Exit → Act → World → Prop) : Prop :=
  ∀ (u0 u8 A0 A1 A2 A3 A4 A5 A6 A7 A8 A9 Aa Ab Ac Ad Ae Af Ag Ah Ai Aj Ak Al Am An Ao Ap Aq Ar As At Au Av Aw Ax Ay Az C0 C1 C2 C3 C4 C5 C6 C7 C8 C9 Ca Cb Cc Cd Ce Cf Cg Ch Ci Cj Ck Cl Cm Cn Co Cp Cq Cr Cs Ct Cu Cv Cw Cx Cy Cz D0 D1 D2 D3 D4 D5 : Value) (w' : World) (ds : List Deferred),BS J s bm k t W g5 g6 g7 g9 m w' → DS W.heap.size w'.heap.size ds w' → (∃ d,d ≤ c ∧ Memo J w' bm d) → Code.wp Try.prog bmrest9 Q ⟨#[u0,(.pointer (some ⟨Bw,0,none⟩)),(.pointer (some ⟨Bf,0,none⟩)),(.pointer (some ⟨Bj,0,none⟩)),(.pointer (some ⟨Bb,0,none⟩)),(.pointer (some ⟨g5,0,none⟩)),(.pointer (some ⟨g6,0,none⟩)),(.pointer (some ⟨g7,0,none⟩)),u8,(.pointer (some ⟨g9,0,none⟩)),A0,A1,A2,A3,A4,A5,A6,A7,A8,A9,Aa,Ab,Ac,Ad,Ae,Af,Ag,Ah,Ai,Aj,Ak,Al,Am,An,Ao,Ap,Aq,Ar,As,At,Au,Av,Aw,Ax,Ay,Az,C0,C1,C2,C3,C4,C5,C6,C7,C8,C9,Ca,Cb,Cc,Cd,Ce,Cf,Cg,Ch,Ci,Cj,Ck,Cl,Cm,Cn,Co,Cp,Cq,Cr,Cs,Ct,Cu,Cv,Cw,Cx,Cy,Cz,D0,D1,D2,D3,D4,D5],ds⟩ w'
theorem run_idx0 (w : World) : (Instr.index 124 (.agg #[.int .i64 1,.int .i64 2]) (.int .i64 0)).run Try.prog w = .ok (.int .i64 1) w := by kernel_rfl
theorem run_idx1 (w : World) : (Instr.index 124 (.agg #[.int .i64 1,.int .i64 2]) (.int .i64 1)).run Try.prog w = .ok (.int .i64 2) w := by kernel_rfl
set_option maxHeartbeats 4000000 in
set_option maxRecDepth 1000000 in
theorem bm_r8 {J : Jb} {sa : Option Addr} {sn sc : Nat} {Bw Bf Bj Bb bm k cnt : Nat} {t : Tg} {W : World} {g5 g6 g7 g9 : Nat} {c : Nat} {ds : List Deferred} {w : World} {Q : Exit → Act → World → Prop} {u0 u8 A0 A1 A2 A3 A4 A5 A6 A7 A8 A9 Aa Ab Ac Ad Ae Af Ag Ah Ai Aj Ak Al Am An Ao Ap Aq Ar As At Au Av Aw Ax Ay Az C0 C1 C2 C3 C4 C5 C6 C7 C8 C9 Ca Cb Cc Cd Ce Cf Cg Ch Ci Cj Ck Cl Cm Cn Co Cp Cq Cr Cs Ct Cu Cv Cw Cx Cy Cz D0 D1 D2 D3 D4 D5 : Value}
    (ih : BestOK J (.slice sa sn sc) Bw Bf Bj Bb bm k) (HE : Env J (.slice sa sn sc) Bw Bf Bj Bb bm W) (HM : Memo J W bm cnt) (hs : BS J (.slice sa sn sc) bm k t W g5 g6 g7 g9 (0,5) w) (hd : DS W.heap.size w.heap.size ds w) (hm : ∃ d,d ≤ c ∧ Memo J w bm d) (hcs : c + 2000 * cost k ≤ 1000000000000000) (hk4 : k ≤ 4) (hme : 0 ≤ J.me ∧ J.me ≤ 6)
    (hJ : J.In 100) (hu : J.u1 ≤ J.u2 ∧ J.d1 ≤ J.d2) (ht : TgIn (k + 1) t) (hQ : RQ J (.slice sa sn sc) Bw Bf Bj Bb bm k t W g5 g6 g7 g9 (c + 2000 * cost k) (choose J (fun t => (bestM J k t).2) t (choose J (fun t => (bestM J k t).2) t (0,5) 1) 2) Q) : Code.wp Try.prog bmrest8 Q ⟨#[u0,(.pointer (some ⟨Bw,0,none⟩)),(.pointer (some ⟨Bf,0,none⟩)),(.pointer (some ⟨Bj,0,none⟩)),(.pointer (some ⟨Bb,0,none⟩)),(.pointer (some ⟨g5,0,none⟩)),(.pointer (some ⟨g6,0,none⟩)),(.pointer (some ⟨g7,0,none⟩)),u8,(.pointer (some ⟨g9,0,none⟩)),A0,A1,A2,A3,A4,A5,A6,A7,A8,A9,Aa,Ab,Ac,Ad,Ae,Af,Ag,Ah,Ai,Aj,Ak,Al,Am,An,Ao,Ap,Aq,Ar,As,At,Au,Av,Aw,Ax,Ay,Az,C0,C1,C2,C3,C4,C5,C6,C7,C8,C9,Ca,Cb,Cc,Cd,Ce,Cf,Cg,Ch,Ci,Cj,Ck,Cl,Cm,Cn,Co,Cp,Cq,Cr,Cs,Ct,Cu,Cv,Cw,Cx,Cy,Cz,D0,D1,D2,D3,D4,D5],ds⟩ w := by
  rw [bmrest8_cut]
  have HS := hidMk hs
  have HD := hidMk hd
  have HMM := hidMk hm
  have HQ := hidMk hQ
  have HC := hidMk hcs
  have HME := hidMk hme
  have HT := hidMk ht
  have HJ := hidMk hJ
  have HU := hidMk hu
  clear hs hd hm hQ hcs hme hJ hu ht
  have ix0 := run_idx0
  have ix1 := run_idx1
  refine wp_seq_k fun K0 hK0 => ?_
  go_wp2_with fail
  refine wp_loop_rounds 3 ?_
  rw [rounds_succ]
  go_wp2_with fail
  rw [mb0_eq]
  go_wp2_with fail
  refine bm_mb1 ih HE HM HS.out HD.out HMM.out (by have := HC.out; omega) hk4 HME.out (.inl rfl) HJ.out HU.out HT.out ?_
  unfold MQ
  rintro a0 a8 a10 a11 a12 a13 a14 a15 a16 a17 a18 a19 a20 a21 a22 a23 a24 a25 a26 a27 a28 a29 a30 a31 a32 a33 a34 a35 a36 a37 a38 a39 a42 a43 a44 a45 a46 a47 a48 a49 a50 a51 a52 a53 a54 a55 a56 a57 a58 a59 a60 a61 a62 a63 a64 a65 a66 a67 a68 a69 a70 a71 a72 a73 a74 a75 a76 a77 a78 a79 a80 a81 a82 a83 a84 a85 a86 a87 w1 d1 hb1 hd1 hm1 e he
  have HB1 := hidMk hb1
  have HD1 := hidMk hd1
  have HM1 := hidMk hm1
  clear hb1 hd1 hm1
  rcases he with rfl | rfl <;> (
    go_wp2_with fail
    rw [rounds_succ]
    go_wp2_with fail
    rw [mb0_eq]
    go_wp2_with fail
    refine bm_mb1 ih HE HM HB1.out HD1.out HM1.out (by have := HC.out; omega) hk4 HME.out (.inr rfl) HJ.out HU.out HT.out ?_
    unfold MQ
    rintro b0 b8 b10 b11 b12 b13 b14 b15 b16 b17 b18 b19 b20 b21 b22 b23 b24 b25 b26 b27 b28 b29 b30 b31 b32 b33 b34 b35 b36 b37 b38 b39 b42 b43 b44 b45 b46 b47 b48 b49 b50 b51 b52 b53 b54 b55 b56 b57 b58 b59 b60 b61 b62 b63 b64 b65 b66 b67 b68 b69 b70 b71 b72 b73 b74 b75 b76 b77 b78 b79 b80 b81 b82 b83 b84 b85 b86 b87 w2 d2 hb2 hd2 hm2 e he
    have HB2 := hidMk hb2
    have HD2 := hidMk hd2
    have HM2 := hidMk (show ∃ d,d ≤ c + 2000 * cost k ∧ Memo J w2 bm d from by obtain ⟨d,h1,h2⟩ := hm2; exact ⟨d,by omega,h2⟩)
    clear hb2 hd2 hm2
    rcases he with rfl | rfl <;> (
      go_wp2_with fail
      rw [rounds_succ]
      go_wp2_with fail
      first | exact HQ.out _ _ _ _ _ _ _ _ _ _ _ _ _ _ _ _ _ _ _ _ _ _ _ _ _ _ _ _ _ _ _ _ _ _ _ _ _ _ _ _ _ _ _ _ _ _ _ _ _ _ _ _ _ _ _ _ _ _ _ _ _ _ _ _ _ _ _ _ _ _ _ _ _ _ _ _ _ _ _ _ w2 d2 HB2.out HD2.out HM2.out | (refine hK0 _ _ ?_; exact HQ.out _ _ _ _ _ _ _ _ _ _ _ _ _ _ _ _ _ _ _ _ _ _ _ _ _ _ _ _ _ _ _ _ _ _ _ _ _ _ _ _ _ _ _ _ _ _ _ _ _ _ _ _ _ _ _ _ _ _ _ _ _ _ _ _ _ _ _ _ _ _ _ _ _ _ _ _ _ _ _ _ w2 d2 HB2.out HD2.out HM2.out)))
end Go.Proofs.Ytadmcafbffjjbaa
namespace Go.Proofs.Ytadmcafbffjjbaa
set_option linter.all false
open Go.RowKit Go.Shelf
structure Sh (lo : Nat) (w w' : World) : Prop where
  os : w'.os = w.os
  tape : w'.tape = w.tape
  output : w'.output = w.output
  size : w'.heap.size = w.heap.size
  same : ∀ i,(i < lo ∨ ∀ x,w.heap[i]? ≠ some (.deferred x)) → w'.heap[i]? = w.heap[i]?
  memo : ∀ J bm c,bm < lo → Memo J w bm c → Memo J w' bm c
theorem leaves_marks {P : Program} {fn : Func} {tmps : Array Value} {R : Ending → World → Prop} {lo hi : Nat} : ∀ (ds : List Deferred) (w : World),DS lo hi ds w → (∀ w',Sh lo w w' → LeavesInM Fence.wide 3 P fn tmps R [] .returning w') → LeavesInM Fence.wide 3 P fn tmps R ds .returning w
  | [],w,_,h => h w ⟨rfl,rfl,rfl,rfl,fun _ _ => rfl,fun _ _ _ _ h => h⟩
  | d :: ds,w,hd,h => by
    obtain ⟨D,e,h1,h2,h3⟩ := hd.1 d List.mem_cons_self
    have hp := List.pairwise_cons.1 hd.2
    refine ⟨by simp,.inl ⟨D,_,by rw [e],run_takeDeferred h3,leaves_marks (lo := lo) (hi := hi) ds _ ⟨fun d' hm => ?_,hp.2⟩ fun w' hs => h w' ⟨hs.os,hs.tape,hs.output,?_,fun i hi => ?_,fun J bm c hb hm => hs.memo J bm c hb (hm.kept (grownBy_putObj' w D _) (by intro e; injection e with e; omega))⟩⟩⟩
    · obtain ⟨D',e',k1,k2,k3⟩ := hd.1 d' (List.mem_cons_of_mem _ hm)
      refine ⟨D',e',k1,k2,(World.putObj_heap_other (fun hq => hp.1 d' hm ?_)).trans k3⟩
      rw [e,e',hq]
    · rw [hs.size]
      simp [World.putObj]
    · have hne : i ≠ D := by
        rintro rfl
        rcases hi with hi | hi
        · omega
        · exact hi _ h3
      rw [hs.same i ?_]
      · exact World.putObj_heap_other hne
      · rcases hi with hi | hi
        · exact .inl hi
        · refine .inr fun x => ?_
          rw [World.putObj_heap_other hne]
          exact hi x
attribute [local go_sem] Oper.semAt_some
set_option maxHeartbeats 4000000 in
set_option maxRecDepth 1000000 in
theorem bm_r9 {J : Jb} {sa : Option Addr} {sn sc : Nat} {Bw Bf Bj Bb bm k cnt : Nat} {t : Tg} {W : World} {g5 g6 g7 g9 : Nat} {c : Nat} {ds : List Deferred} {hi : Nat} {m : Int × Int} {kl : Lit} {w : World} {u0 u8 A0 A1 A2 A3 A4 A5 A6 A7 A8 A9 Aa Ab Ac Ad Ae Af Ag Ah Ai Aj Ak Al Am An Ao Ap Aq Ar As At Au Av Aw Ax Ay Az C0 C1 C2 C3 C4 C5 C6 C7 C8 C9 Ca Cb Cc Cd Ce Cf Cg Ch Ci Cj Ck Cl Cm Cn Co Cp Cq Cr Cs Ct Cu Cv Cw Cx Cy Cz D0 D1 D2 D3 D4 D5 : Value}
    (HE : Env J (.slice sa sn sc) Bw Bf Bj Bb bm W) (HM : Memo J W bm cnt) (hs : BS J (.slice sa sn sc) bm k t W g5 g6 g7 g9 m w) (hd : DS W.heap.size hi ds w) (hm : ∃ d,d ≤ c ∧ Memo J w bm d) (hmv : bestM J (k + 1) t = m) (hc : c + 1 ≤ cnt + cost (k + 1)) (hcc : c ≤ 1000000000000000) (hkey : keyOf Try.prog 91 (.agg (knownC t (k + 1))) = some kl) : Code.wp Try.prog bmrest9 (Exit.noGoto (bodyPostM Fence.wide 3 Try.prog Try.f77 (BestEnd J (k + 1) t bm cnt W))) ⟨#[u0,(.pointer (some ⟨Bw,0,none⟩)),(.pointer (some ⟨Bf,0,none⟩)),(.pointer (some ⟨Bj,0,none⟩)),(.pointer (some ⟨Bb,0,none⟩)),(.pointer (some ⟨g5,0,none⟩)),(.pointer (some ⟨g6,0,none⟩)),(.pointer (some ⟨g7,0,none⟩)),u8,(.pointer (some ⟨g9,0,none⟩)),A0,A1,A2,A3,A4,A5,A6,A7,A8,A9,Aa,Ab,Ac,Ad,Ae,Af,Ag,Ah,Ai,Aj,Ak,Al,Am,An,Ao,Ap,Aq,Ar,As,At,Au,Av,Aw,Ax,Ay,Az,C0,C1,C2,C3,C4,C5,C6,C7,C8,C9,Ca,Cb,Cc,Cd,Ce,Cf,Cg,Ch,Ci,Cj,Ck,Cl,Cm,Cn,Co,Cp,Cq,Cr,Cs,Ct,Cu,Cv,Cw,Cx,Cy,Cz,D0,D1,D2,D3,D4,D5],ds⟩ w := by
  rw [bmrest9_eq]
  obtain ⟨d,hd1,hd2⟩ := hm
  have hE' := HE.grown HM hs.gr
  have e2 := hE'.found.at_ 0 _ rfl
  obtain ⟨w2,hrun,hm2,hg2⟩ := hd2.store (by unfold maxLen; omega) hkey
  rw [hmv] at hrun
  have y0 := hs.b7.at_ 0 _ rfl
  have y1 := hs.b7.at_ 1 _ rfl
  have HS := hidMk hs
  have HD := hidMk hd
  have HM2 := hidMk hm2
  have HG2 := hidMk hg2
  have HS2 := hidMk (hs.grown hg2)
  have HMV := hidMk hmv
  have r0 := HS2.out.b7.at_ 0 _ rfl
  have r1 := HS2.out.b7.at_ 1 _ rfl
  have s0 := HS2.out.b6.at_ 0 _ rfl
  have s1 := HS2.out.b6.at_ 1 _ rfl
  have f0 := HS2.out.b6.free 0
  have f1 := HS2.out.b6.free 1
  clear hE' hs hd hm2 hg2 hd2 hkey hmv
  go_wp2_with (refine wpList_load_row rfl 91 _ rfl g5 rfl _ (knownC t (k + 1)) _ _ HS.out.b5 Try.underlying91 rfl szKnown ?_)
  rw [bmrest10_eq]
  go_wp2_with fail
  rw [Exit.noGoto_ret]
  have q1 : Stp bm g6 g6 w w2 := .grown HG2.out
  have q2 : Stp bm g6 g6 w2 ((w2.setCell ⟨g6,0,none⟩ (.int .i64 m.1)).setCell ⟨g6,1,none⟩ (.int .i64 m.2)) := (Stp.cell (g := g6) (h := g6) ⟨g6,0,none⟩ _ (.inl rfl)).trans (Stp.cell ⟨g6,1,none⟩ _ (.inl rfl))
  have hlm := HS.out.lm
  have hn6 := HS.out.n6
  have b6 : Bk ((w2.setCell ⟨g6,0,none⟩ (.int .i64 m.1)).setCell ⟨g6,1,none⟩ (.int .i64 m.2)) g6 89 #[.int .i64 m.1,.int .i64 m.2] := (HS2.out.b6.put 0 (.int .i64 m.1)).put 1 (.int .i64 m.2)
  have hM2 := (HM2.out.kept (grownBy_setCellA w2 g6 0 (.int .i64 m.1)) (by intro e; injection e with e; omega)).kept (grownBy_setCellA _ g6 1 (.int .i64 m.2)) (by intro e; injection e with e; omega)
  refine leaves_marks (lo := W.heap.size) (hi := hi) ds _ ((HD.out.stp q1 hlm HS.out.b6 HS.out.b6).stp q2 hlm HS2.out.b6 HS2.out.b6) fun w' hsh => ?_
  have b6' : Bk w' g6 89 #[.int .i64 m.1,.int .i64 m.2] := (hsh.same _ (.inr (by intro x; rw [show (((w2.setCell ⟨g6,0,none⟩ (.int .i64 m.1)).setCell ⟨g6,1,none⟩ (.int .i64 m.2))).heap[g6]? = _ from b6]; simp))).trans b6
  have hgr := HS2.out.gr
  exact ⟨_,results_cell_row Try.results77 _ _ _ _ _ _ _ rfl b6' Try.underlying89 rfl szMove,by rw [HMV.out],⟨d + 1,by omega,hsh.memo _ _ _ hlm hM2⟩,⟨hsh.os.trans (q2.os.trans hgr.os),hsh.tape.trans (q2.tape.trans hgr.tape),hsh.output.trans (q2.output.trans hgr.output),by rw [hsh.size]; exact Nat.le_trans hgr.size q2.size,fun i hi hne => (hsh.same i (.inl hi)).trans ((q2.same i (Nat.lt_of_lt_of_le hi hgr.size) (fun e => hne (by rw [e])) (by omega) (by omega)).trans (hgr.block i hi hne))⟩⟩
end Go.Proofs.Ytadmcafbffjjbaa
namespace Go.Proofs.Ytadmcafbffjjbaa
set_option linter.all false
open Go.RowKit Go.Shelf
set_option maxHeartbeats 4000000 in
set_option maxRecDepth 1000000 in
theorem bm_r5 {J : Jb} {sa : Option Addr} {sn sc : Nat} {Bw Bf Bj Bb k : Nat} {t : Tg} {g5 g6 g7 : Nat} {w : World} {Q : Exit → Act → World → Prop} {u0 u8 u9 A0 A1 A2 A3 A4 A5 A6 A7 A8 A9 Aa Ab Ac Ad Ae Af Ag Ah Ai Aj Ak Al Am An Ao Ap Aq Ar As At Au Av Aw Ax Ay Az C0 C1 C2 C3 C4 C5 C6 C7 C8 C9 Ca Cb Cc Cd Ce Cf Cg Ch Ci Cj Ck Cl Cm Cn Co Cp Cq Cr Cs Ct Cu Cv Cw Cx Cy Cz D0 D1 D2 D3 D4 D5 : Value}
    (hjob : Bk w Bj 30 (jobC J (.slice sa sn sc))) (h5 : Bk w g5 91 (knownC t (k + 1))) (hQ : ∀ (u0 u8 A0 A1 A2 A3 A4 A5 A6 A7 A8 A9 Aa Ab Ac Ad Ae Af Ag Ah Ai Aj Ak Al Am An Ao Ap Aq Ar As At Au Av Aw Ax Ay Az C0 C1 C2 C3 C4 C5 C6 C7 C8 C9 Ca Cb Cc Cd Ce Cf Cg Ch Ci Cj Ck Cl Cm Cn Co Cp Cq Cr Cs Ct Cu Cv Cw Cx Cy Cz D0 D1 D2 D3 D4 D5 : Value) (w' : World),Below w.heap.size w w' → Bk w' w.heap.size 104 (jobC (J.setTg t) (.slice sa sn sc)) → Code.wp Try.prog bmrest8 Q ⟨#[u0,(.pointer (some ⟨Bw,0,none⟩)),(.pointer (some ⟨Bf,0,none⟩)),(.pointer (some ⟨Bj,0,none⟩)),(.pointer (some ⟨Bb,0,none⟩)),(.pointer (some ⟨g5,0,none⟩)),(.pointer (some ⟨g6,0,none⟩)),(.pointer (some ⟨g7,0,none⟩)),u8,(.pointer (some ⟨w.heap.size,0,none⟩)),A0,A1,A2,A3,A4,A5,A6,A7,A8,A9,Aa,Ab,Ac,Ad,Ae,Af,Ag,Ah,Ai,Aj,Ak,Al,Am,An,Ao,Ap,Aq,Ar,As,At,Au,Av,Aw,Ax,Ay,Az,C0,C1,C2,C3,C4,C5,C6,C7,C8,C9,Ca,Cb,Cc,Cd,Ce,Cf,Cg,Ch,Ci,Cj,Ck,Cl,Cm,Cn,Co,Cp,Cq,Cr,Cs,Ct,Cu,Cv,Cw,Cx,Cy,Cz,D0,D1,D2,D3,D4,D5],[]⟩ w') : Code.wp Try.prog bmrest5 Q ⟨#[u0,(.pointer (some ⟨Bw,0,none⟩)),(.pointer (some ⟨Bf,0,none⟩)),(.pointer (some ⟨Bj,0,none⟩)),(.pointer (some ⟨Bb,0,none⟩)),(.pointer (some ⟨g5,0,none⟩)),(.pointer (some ⟨g6,0,none⟩)),(.pointer (some ⟨g7,0,none⟩)),u8,u9,A0,A1,A2,A3,A4,A5,A6,A7,A8,A9,Aa,Ab,Ac,Ad,Ae,Af,Ag,Ah,Ai,Aj,Ak,Al,Am,An,Ao,Ap,Aq,Ar,As,At,Au,Av,Aw,Ax,Ay,Az,C0,C1,C2,C3,C4,C5,C6,C7,C8,C9,Ca,Cb,Cc,Cd,Ce,Cf,Cg,Ch,Ci,Cj,Ck,Cl,Cm,Cn,Co,Cp,Cq,Cr,Cs,Ct,Cu,Cv,Cw,Cx,Cy,Cz,D0,D1,D2,D3,D4,D5],[]⟩ w := by
  rw [bmrest5_eq]
  have HJB := hidMk hjob
  have H5 := hidMk h5
  have HQ := hidMk hQ
  clear hjob h5 hQ
  go_wp2_with (first | (refine wpList_load_row rfl 30 _ rfl Bj rfl _ (jobC J (.slice sa sn sc)) _ _ HJB.out Try.underlying30 rfl szJob ?_) | (refine wpList_store_row rfl 104 _ _ rfl w.heap.size (jobC J (.slice sa sn sc)) rfl rfl _ _ (Bk.new _ _ _) szWork rfl (oneJob _ _ _ _) ?_; rw [World.setRow_alloc_new]))
  have b9 : Bk (w.alloc (.cells (jobC J (.slice sa sn sc)) 104)) w.heap.size 104 (jobC J (.slice sa sn sc)) := Bk.new _ _ _
  have q9 : Below w.heap.size w (w.alloc (.cells (jobC J (.slice sa sn sc)) 104)) := (Below.refl _ _).alloc (Nat.le_refl _) _
  have h5 := H5.out.below q9 H5.out.lt
  generalize (w.alloc (.cells (jobC J (.slice sa sn sc)) 104)) = w9 at b9 q9 h5 ⊢
  rw [bmrest6_eq]
  have k0 := h5.at_ 0 (.int .i64 t.p1) rfl
  have k1 := h5.at_ 1 (.int .i64 t.p2) rfl
  have k2 := h5.at_ 2 (.int .i64 t.t1) rfl
  have k3 := h5.at_ 3 (.int .i64 t.t2) rfl
  have k4 := h5.at_ 4 (.int .i64 t.r1) rfl
  have k5 := h5.at_ 5 (.int .i64 t.r2) rfl
  have c0 := b9.at_ 0 (.int .i64 J.p1) rfl
  have c1 := b9.at_ 1 (.int .i64 J.p2) rfl
  have c2 := b9.at_ 2 (.int .i64 J.t1) rfl
  have c3 := b9.at_ 3 (.int .i64 J.t2) rfl
  have c4 := b9.at_ 4 (.int .i64 J.r1) rfl
  have c5 := b9.at_ 5 (.int .i64 J.r2) rfl
  have f0 := b9.free 0
  have f1 := b9.free 1
  have f2 := b9.free 2
  have f3 := b9.free 3
  have f4 := b9.free 4
  have f5 := b9.free 5
  have B9 := hidMk b9
  have Q9 := hidMk q9
  clear b9 q9 h5
  go_wp2_with fail
  rw [bmrest7_eq]
  go_wp2_with fail
  refine (wpIn_wide (n := 3)).1 (wpIn_label ?_)
  go_wp2_with fail
  refine HQ.out _ _ _ _ _ _ _ _ _ _ _ _ _ _ _ _ _ _ _ _ _ _ _ _ _ _ _ _ _ _ _ _ _ _ _ _ _ _ _ _ _ _ _ _ _ _ _ _ _ _ _ _ _ _ _ _ _ _ _ _ _ _ _ _ _ _ _ _ _ _ _ _ _ _ _ _ _ _ _ _ _ ?_ ((((((B9.out.put 0 (.int .i64 t.p1)).put 1 (.int .i64 t.p2)).put 2 (.int .i64 t.t1)).put 3 (.int .i64 t.t2)).put 4 (.int .i64 t.r1)).put 5 (.int .i64 t.r2))
  iterate 6 (refine Below.setCell ?_ (by simp) _)
  exact Q9.out
set_option maxHeartbeats 4000000 in
set_option maxRecDepth 1000000 in
theorem bm_front {J : Jb} {sa : Option Addr} {sn sc : Nat} {Bw Bf Bj Bb bm k cnt : Nat} {t : Tg} {W : World} {g5 g6 : Nat} {w : World} {kl : Lit} {u0 u7 u8 u9 A0 A1 A2 A3 A4 A5 A6 A7 A8 A9 Aa Ab Ac Ad Ae Af Ag Ah Ai Aj Ak Al Am An Ao Ap Aq Ar As At Au Av Aw Ax Ay Az C0 C1 C2 C3 C4 C5 C6 C7 C8 C9 Ca Cb Cc Cd Ce Cf Cg Ch Ci Cj Ck Cl Cm Cn Co Cp Cq Cr Cs Ct Cu Cv Cw Cx Cy Cz D0 D1 D2 D3 D4 D5 : Value}
    (ih : BestOK J (.slice sa sn sc) Bw Bf Bj Bb bm k) (HE : Env J (.slice sa sn sc) Bw Bf Bj Bb bm W) (HM : Memo J W bm cnt) (hB : Below W.heap.size W w) (h5 : Bk w g5 91 (knownC t (k + 1))) (h6 : Bk w g6 89 #[.int .i64 0,.int .i64 0]) (n5 : W.heap.size ≤ g5) (n6 : W.heap.size ≤ g6)
    (hw : ¬ ((win J.wi J.sh).1 ≤ t.p1 ∧ t.p2 ≤ (win J.wi J.sh).2)) (hk4 : k ≤ 3) (hJ : J.In 100) (hme : 0 ≤ J.me ∧ J.me ≤ 6) (hu : J.u1 ≤ J.u2 ∧ J.d1 ≤ J.d2) (ht : TgIn (k + 1) t) (hcnt : cnt + cost (k + 1) ≤ 1000000000000000) (hkey : keyOf Try.prog 91 (.agg (knownC t (k + 1))) = some kl) :
    Code.wp Try.prog bmbody (Exit.noGoto (bodyPostM Fence.wide 3 Try.prog Try.f77 (BestEnd J (k + 1) t bm cnt W))) ⟨#[u0,(.pointer (some ⟨Bw,0,none⟩)),(.pointer (some ⟨Bf,0,none⟩)),(.pointer (some ⟨Bj,0,none⟩)),(.pointer (some ⟨Bb,0,none⟩)),(.pointer (some ⟨g5,0,none⟩)),(.pointer (some ⟨g6,0,none⟩)),u7,u8,u9,A0,A1,A2,A3,A4,A5,A6,A7,A8,A9,Aa,Ab,Ac,Ad,Ae,Af,Ag,Ah,Ai,Aj,Ak,Al,Am,An,Ao,Ap,Aq,Ar,As,At,Au,Av,Aw,Ax,Ay,Az,C0,C1,C2,C3,C4,C5,C6,C7,C8,C9,Ca,Cb,Cc,Cd,Ce,Cf,Cg,Ch,Ci,Cj,Ck,Cl,Cm,Cn,Co,Cp,Cq,Cr,Cs,Ct,Cu,Cv,Cw,Cx,Cy,Cz,D0,D1,D2,D3,D4,D5],[]⟩ w := by
  rw [bmbody_eq]
  have hd : decide ((win J.wi J.sh).1 ≤ t.p1 ∧ t.p2 ≤ (win J.wi J.sh).2) = false := decide_eq_false hw
  have hk0 : ((k : Int) + 1 == 0) = false := by rw [beq_eq_false_iff_ne]; omega
  have hE' := HE.below hB
  have w0 := hE'.win.at_ 0 _ rfl
  have w1 := hE'.win.at_ 1 _ rfl
  have p0 := h5.at_ 0 (.int .i64 t.p1) rfl
  have p1 := h5.at_ 1 (.int .i64 t.p2) rfl
  have p6 := h5.at_ 6 (.int .i64 ((k : Int) + 1)) (by rw [knownC_succ]; rfl)
  have HW := hidMk hw
  have H5 := hidMk h5
  have H6 := hidMk h6
  have HB := hidMk hB
  clear hw h5 h6 hE' hB
  go_wp2_with (go_at_call 78; refine (holds_any _ _ _ _ _).mono ?_; rintro e w2 ⟨rfl,rfl⟩; rw [hd])
  have hB2 : Below w.heap.size w ((w.alloc (.cells #[.int .i64 (win J.wi J.sh).1,.int .i64 (win J.wi J.sh).2] 23)).alloc (.cells #[.int .i64 t.p1,.int .i64 t.p2] 23)) := ((Below.refl _ _).alloc (Nat.le_refl _) _).alloc (by simp) _
  clear w0 w1 p0 p1 p6 hd
  generalize ((w.alloc (.cells #[.int .i64 (win J.wi J.sh).1,.int .i64 (win J.wi J.sh).2] 23)).alloc (.cells #[.int .i64 t.p1,.int .i64 t.p2] 23)) = w3 at hB2 ⊢
  have h5 := H5.out.below hB2 H5.out.lt
  have h6 := H6.out.below hB2 H6.out.lt
  have hB3 := HB.out.trans (hB2.mono HB.out.size)
  have hne : g6 ≠ g5 := by
    rintro rfl
    have a := h5
    have b := h6
    unfold Bk at a b
    rw [a] at b
    simp [knownC] at b
  clear H5 H6 HB hB2
  have hE' := HE.below hB3
  have e2 := hE'.found.at_ 0 _ rfl
  have p6 := h5.at_ 6 (.int .i64 ((k : Int) + 1)) (by rw [knownC_succ]; rfl)
  have H5 := hidMk h5
  have H6 := hidMk h6
  have HB := hidMk hB3
  have hlm := HM.lt
  have hM3 := HM.kept (grown_of_below hB3 none) (by simp)
  clear h5 h6 hB3 hE'
  rw [bmrest1_eq]
  rcases hM3.look hkey with hl | hl
  · have H3 := hidMk hM3
    clear hM3
    go_wp2_with fail
    rw [bmrest2_eq]
    go_wp2_with (refine wpList_load_row rfl 91 _ rfl g5 rfl _ (knownC t (k + 1)) _ _ H5.out Try.underlying91 rfl szKnown ?_)
    rw [bmrest3_eq]
    go_wp2_with fail
    rw [bmrest4_eq]
    go_wp2_with fail
    have b7 : Bk (w3.alloc (.cells #[.int .i64 0,.int .i64 5] 89)) w3.heap.size 89 #[.int .i64 0,.int .i64 5] := Bk.new _ _ _
    have q4 : Below w3.heap.size w3 (w3.alloc (.cells #[.int .i64 0,.int .i64 5] 89)) := (Below.refl _ _).alloc (Nat.le_refl _) _
    have z4 : (w3.alloc (.cells #[.int .i64 0,.int .i64 5] 89)).heap.size = w3.heap.size + 1 := by simp
    obtain ⟨g7,hg7⟩ : ∃ g7,g7 = w3.heap.size := ⟨_,rfl⟩
    rw [← hg7] at b7 ⊢
    generalize (w3.alloc (.cells #[.int .i64 0,.int .i64 5] 89)) = w4 at b7 q4 z4 ⊢
    have HJB := hidMk ((HE.below (HB.out.trans (q4.mono HB.out.size))).job)
    have H7 := hidMk b7
    have Q4 := hidMk q4
    clear b7 q4
    refine bm_r5 (J := J) (sa := sa) (sn := sn) (sc := sc) (k := k) (t := t) HJB.out (H5.out.below Q4.out H5.out.lt) ?_
    rintro a0 a8 a10 a11 a12 a13 a14 a15 a16 a17 a18 a19 a20 a21 a22 a23 a24 a25 a26 a27 a28 a29 a30 a31 a32 a33 a34 a35 a36 a37 a38 a39 a40 a41 a42 a43 a44 a45 a46 a47 a48 a49 a50 a51 a52 a53 a54 a55 a56 a57 a58 a59 a60 a61 a62 a63 a64 a65 a66 a67 a68 a69 a70 a71 a72 a73 a74 a75 a76 a77 a78 a79 a80 a81 a82 a83 a84 a85 a86 a87 w5 hB5 b9
    have hB4 := HB.out.trans (Q4.out.mono HB.out.size)
    have hB6 := hB4.trans (hB5.mono hB4.size)
    have hc : cost (k + 1) = 1 + 4000 * cost k := rfl
    have hz3 := HB.out.size
    have hz4 := Q4.out.size
    have l6 := H6.out.lt
    refine bm_r8 (c := cnt) ih HE HM ⟨grown_of_below hB6 _,(H5.out.below Q4.out H5.out.lt).below hB5 (by have := H5.out.lt; omega),(H6.out.below Q4.out l6).below hB5 (by omega),H7.out.below hB5 H7.out.lt,b9,hlm,n5,n6,by omega,by omega,by omega⟩ ⟨by simp,List.Pairwise.nil⟩ ⟨cnt,Nat.le_refl _,HM.kept (grown_of_below hB6 none) (by simp)⟩ (by omega) (by omega) hme hJ hu ht ?_
    unfold RQ
    rintro b0 b8 b10 b11 b12 b13 b14 b15 b16 b17 b18 b19 b20 b21 b22 b23 b24 b25 b26 b27 b28 b29 b30 b31 b32 b33 b34 b35 b36 b37 b38 b39 b40 b41 b42 b43 b44 b45 b46 b47 b48 b49 b50 b51 b52 b53 b54 b55 b56 b57 b58 b59 b60 b61 b62 b63 b64 b65 b66 b67 b68 b69 b70 b71 b72 b73 b74 b75 b76 b77 b78 b79 b80 b81 b82 b83 b84 b85 b86 b87 w6 ds hbs hds hmm
    exact bm_r9 (c := cnt + 2000 * cost k) HE HM hbs hds hmm (if_neg HW.out) (by omega) (by omega) hkey
  · have s0 := H6.out.at_ 0 _ rfl
    have s1 := H6.out.at_ 1 _ rfl
    have f0 := H6.out.free 0
    have f1 := H6.out.free 1
    have l6 := H6.out.lt
    clear hM3
    go_wp2_with fail
    rw [bmrest2_eq]
    go_wp2_with (refine wpList_load_row rfl 91 _ rfl g5 rfl _ (knownC t (k + 1)) _ _ H5.out Try.underlying91 rfl szKnown ?_)
    rw [bmrest3_eq]
    go_wp2_with fail
    rw [Exit.noGoto_ret]
    have b6 := (H6.out.put 0 (.int .i64 (bestM J (k + 1) t).1)).put 1 (.int .i64 (bestM J (k + 1) t).2)
    have hq := ((HB.out.setCell (p := ⟨g6,0,none⟩) n6 (.int .i64 (bestM J (k + 1) t).1)).setCell (p := ⟨g6,1,none⟩) n6 (.int .i64 (bestM J (k + 1) t).2)).alloc (by rw [size_setCell',size_setCell']; exact HB.out.size) (.cells #[.int .i64 (bestM J (k + 1) t).1,.int .i64 (bestM J (k + 1) t).2] 89)
    exact ⟨_,results_cell_row Try.results77 _ _ _ _ _ _ _ rfl (Bk.alloc b6 _) Try.underlying89 rfl szMove,rfl,⟨cnt,by omega,HM.kept (grown_of_below hq none) (by simp)⟩,grown_of_below hq _⟩
end Go.Proofs.Ytadmcafbffjjbaa
namespace Go.Proofs.Ytadmcafbffjjbaa
set_option linter.all false
open Go.RowKit Go.Shelf
attribute [local go_sem] Oper.semAt_some
theorem tg_key {k : Nat} {t : Tg} (h : TgIn k t) (hk : k ≤ 5) : ∃ kl,keyOf Try.prog 91 (.agg (knownC t k)) = some kl := by
  obtain ⟨h,_⟩ := h
  simp only [Tg.In] at h
  exact key_ok t k ⟨by omega,by omega,by omega,by omega,by omega,by omega⟩ (by omega)
set_option maxHeartbeats 4000000 in
set_option maxRecDepth 1000000 in
theorem best_succ (J : Jb) (sa : Option Addr) (sn sc : Nat) (Bw Bf Bj Bb bm k : Nat) (ih : BestOK J (.slice sa sn sc) Bw Bf Bj Bb bm k) (hk4 : k ≤ 3) (hJ : J.In 100) (hme : 0 ≤ J.me ∧ J.me ≤ 6) (hu : J.u1 ≤ J.u2 ∧ J.d1 ≤ J.d2) : BestOK J (.slice sa sn sc) Bw Bf Bj Bb bm (k + 1) := by
  intro t cnt W HE HM ht hcnt
  by_cases hw : (win J.wi J.sh).1 ≤ t.p1 ∧ t.p2 ≤ (win J.wi J.sh).2
  · exact best_stop J (.slice sa sn sc) Bw Bf Bj Bb bm cnt (k + 1) t W HE HM hw
  · obtain ⟨kl,hkey⟩ := tg_key ht (by omega)
    have hKey := hidMk hkey
    have hE := hidMk HE
    have hM := hidMk HM
    have hT := hidMk ht
    have hC := hidMk hcnt
    have hW := hidMk hw
    have hJJ := hidMk hJ
    have hME := hidMk hme
    have hU := hidMk hu
    have hIH := hidMk ih
    have hcast : ((k + 1 : Nat) : Int) = (k : Int) + 1 := by omega
    rw [hcast]
    clear hcast HE HM ht hcnt hw hJ hme hu ih hkey
    refine (callsIn_wide (n := 3)).1 (callsIn_of_wp_marks Try.func77 rfl trivial ?_ rfl)
    simp only [Try.ntmps77,List.size_toArray,List.length_cons,List.length_nil,Nat.reduceAdd,Nat.reduceSub,Array.replicate_succ,Array.replicate_zero,List.push_toArray,List.append_toArray,List.nil_append,List.cons_append]
    gi_wp2_with fail
    refine wpIn_scope ?_
    refine wpIn_wide.2 ?_
    have b5 : Bk ((W.alloc (.cells #[.int .i64 t.p1,.int .i64 t.p2,.int .i64 t.t1,.int .i64 t.t2,.int .i64 t.r1,.int .i64 t.r2,.int .i64 ((k : Int) + 1)] 91)).alloc (.cells #[.int .i64 0,.int .i64 0] 89)) W.heap.size 91 (knownC t (k + 1)) := by rw [knownC_succ]; exact (Bk.new _ _ _).alloc _
    have b6 : Bk ((W.alloc (.cells #[.int .i64 t.p1,.int .i64 t.p2,.int .i64 t.t1,.int .i64 t.t2,.int .i64 t.r1,.int .i64 t.r2,.int .i64 ((k : Int) + 1)] 91)).alloc (.cells #[.int .i64 0,.int .i64 0] 89)) (W.heap.size + 1) 89 #[.int .i64 0,.int .i64 0] := Bk.newAt _ _ _ _ (by simp)
    have q : Below W.heap.size W ((W.alloc (.cells #[.int .i64 t.p1,.int .i64 t.p2,.int .i64 t.t1,.int .i64 t.t2,.int .i64 t.r1,.int .i64 t.r2,.int .i64 ((k : Int) + 1)] 91)).alloc (.cells #[.int .i64 0,.int .i64 0] 89)) := ((Below.refl _ _).alloc (Nat.le_refl _) _).alloc (by simp) _
    generalize ((W.alloc (.cells #[.int .i64 t.p1,.int .i64 t.p2,.int .i64 t.t1,.int .i64 t.t2,.int .i64 t.r1,.int .i64 t.r2,.int .i64 ((k : Int) + 1)] 91)).alloc (.cells #[.int .i64 0,.int .i64 0] 89)) = w at b5 b6 q ⊢
    show Code.wp Try.prog bmbody _ _ _
    exact bm_front hIH.out hE.out hM.out q b5 b6 (Nat.le_refl _) (by omega) hW.out hk4 hJJ.out hME.out hU.out hT.out hC.out hKey.out
theorem best_zero (J : Jb) (s : Value) (Bw Bf Bj Bb bm : Nat) : BestOK J s Bw Bf Bj Bb bm 0 := by
  intro t cnt W HE HM ht hcnt
  by_cases hw : (win J.wi J.sh).1 ≤ t.p1 ∧ t.p2 ≤ (win J.wi J.sh).2
  · exact best_stop J s Bw Bf Bj Bb bm cnt 0 t W HE HM hw
  · exact best_none J s Bw Bf Bj Bb bm cnt t W HE HM hw
theorem best_all (J : Jb) (sa : Option Addr) (sn sc : Nat) (Bw Bf Bj Bb bm : Nat) (hJ : J.In 100) (hme : 0 ≤ J.me ∧ J.me ≤ 6) (hu : J.u1 ≤ J.u2 ∧ J.d1 ≤ J.d2) : ∀ k,k ≤ 4 → BestOK J (.slice sa sn sc) Bw Bf Bj Bb bm k
  | 0,_ => best_zero J _ Bw Bf Bj Bb bm
  | k + 1,h => best_succ J sa sn sc Bw Bf Bj Bb bm k (best_all J sa sn sc Bw Bf Bj Bb bm hJ hme hu k (by omega)) (by omega) hJ hme hu
#print axioms best_all
end Go.Proofs.Ytadmcafbffjjbaa
namespace Go.Proofs.Ytadmcafbffjjbaa
set_option linter.all false
open Go.RowKit Go.Shelf
noncomputable def plbody : Code := Try.f48.body.getD .skip
noncomputable def plrest1 : Code := sndB plbody
noncomputable def plrest2 : Code := sndB plrest1
noncomputable def plrest3 : Code := sndB plrest2
noncomputable def plrest4 : Code := sndB plrest3
noncomputable def plrest5 : Code := sndB plrest4
set_option maxRecDepth 1000000 in
theorem plbody_eq : plbody = .seq (Code.region 0 #[⟨some 1,.box 30 (.tmp 0),0,"game.go:86",#[],none⟩,⟨some 2,.assign (.const .nilFunc),83,"game.go:86",#[],none⟩] false) plrest1 := by kernel_rfl
set_option maxRecDepth 1000000 in
theorem plrest1_eq : plrest1 = .seq (Code.region 1 #[⟨some 8,.load 30 (.tmp 1),30,"game.go:87",#[],none⟩,⟨some 9,.call { callee := .value (.func 65),args := #[.tmp 8],argTypes := #[30] },108,"game.go:87",#[⟨0,.data⟩],none⟩,⟨some 7,.move (.tmp 9),108,"game.go:87",#[⟨1,.data⟩],none⟩,⟨some 10,.extract (.tmp 7) 0,23,"game.go:87",#[⟨2,.data⟩],none⟩,⟨some 11,.extract (.tmp 7) 1,23,"game.go:87",#[⟨2,.data⟩,⟨7,.gcOnly .lateStores⟩],none⟩,⟨some 3,.alloc 23,0,"game.go:87",#[],none⟩,⟨some 4,.alloc 23,0,"game.go:87",#[],none⟩,⟨none,.store 23 (.tmp 3) (.tmp 10),0,"game.go:87",#[⟨5,.data⟩,⟨3,.data⟩,⟨1,.chain⟩,⟨0,.phase⟩,⟨1,.phase⟩,⟨2,.phase⟩,⟨3,.phase⟩,⟨4,.textOnly .lateStores⟩,⟨5,.phase⟩,⟨6,.phase⟩],none⟩,⟨none,.store 23 (.tmp 4) (.tmp 11),0,"game.go:87",#[⟨6,.data⟩,⟨4,.data⟩,⟨7,.chain⟩,⟨0,.phase⟩,⟨1,.phase⟩,⟨2,.phase⟩,⟨3,.phase⟩,⟨4,.phase⟩,⟨5,.phase⟩,⟨6,.phase⟩,⟨7,.phase⟩],none⟩] false) plrest2 := by kernel_rfl
set_option maxRecDepth 1000000 in
theorem plrest2_eq : plrest2 = .seq (Code.region 2 #[⟨some 12,.makeMap 122 none,122,"game.go:88",#[],none⟩,⟨some 5,.alloc 122,0,"game.go:88",#[],none⟩,⟨none,.store 122 (.tmp 5) (.tmp 12),0,"game.go:88",#[⟨1,.data⟩,⟨0,.data⟩,⟨0,.phase⟩,⟨1,.phase⟩],none⟩] false) plrest3 := by kernel_rfl
set_option maxRecDepth 1000000 in
theorem plrest3_eq : plrest3 = .seq (Code.region 3 #[⟨some 6,.alloc 83,0,"game.go:89",#[],none⟩] false) plrest4 := by kernel_rfl
set_option maxRecDepth 1000000 in
theorem plrest4_eq : plrest4 = .seq (Code.region 4 #[⟨some 13,.makeFunc (Go.Fn.func 77) #[] #[.tmp 3,.tmp 5,.tmp 1,.tmp 6],83,"game.go:90",#[],none⟩,⟨none,.store 83 (.tmp 6) (.tmp 13),0,"game.go:90",#[⟨0,.data⟩,⟨0,.phase⟩],none⟩] false) plrest5 := by kernel_rfl
set_option maxRecDepth 1000000 in
theorem plrest5_eq : plrest5 = .seq (Code.region 5 #[⟨some 14,.load 83 (.tmp 6),83,"game.go:123",#[],none⟩,⟨some 2,.assign (.tmp 14),83,"game.go:123",#[⟨0,.data⟩,⟨0,.phase⟩],none⟩] false) .ret := by kernel_rfl
def QPL (J : Jb) (sa : Option Addr) (sn sc : Nat) (w0 : World) : Exit → Act → World → Prop := bodyPost Try.prog Try.f48 (fun e w' => ∃ Bw Bf Bj Bb bm,e = .returned (.func (.func 77) #[] #[.pointer (some ⟨Bw,0,none⟩),.pointer (some ⟨Bf,0,none⟩),.pointer (some ⟨Bj,0,none⟩),.pointer (some ⟨Bb,0,none⟩)]) ∧ Env J (.slice sa sn sc) Bw Bf Bj Bb bm w' ∧ Memo J w' bm 0 ∧ Below w0.heap.size w0 w' ∧ w0.heap.size ≤ bm)
set_option maxHeartbeats 4000000 in
set_option maxRecDepth 1000000 in
theorem plpart4 {J : Jb} {sa : Option Addr} {sn sc g1 g3 g5 g6 bm : Nat} {w0 w : World} {z : Value} {u0 u2 u4 u7 u8 u9 u10 u11 u12 u13 u14 : Value} (h3 : Bk w g3 23 #[.int .i64 (win J.wi J.sh).1,.int .i64 (win J.wi J.sh).2]) (h5 : Bk w g5 122 #[.map (some bm)]) (h1 : Bk w g1 30 (jobC J (.slice sa sn sc))) (h6 : Bk w g6 83 #[z]) (hne : g6 ≠ g3 ∧ g6 ≠ g5 ∧ g6 ≠ g1) (hm : Memo J w bm 0) (hB : Below w0.heap.size w0 w) (hg6 : w0.heap.size ≤ g6) (hbmw : w0.heap.size ≤ bm) : Code.wp Try.prog plrest4 (QPL J sa sn sc w0) ⟨#[u0,(.pointer (some ⟨g1,0,none⟩)),u2,(.pointer (some ⟨g3,0,none⟩)),u4,(.pointer (some ⟨g5,0,none⟩)),(.pointer (some ⟨g6,0,none⟩)),u7,u8,u9,u10,u11,u12,u13,u14],[]⟩ w := by
  rw [plrest4_eq]
  have z6 := h6.at_ 0 _ rfl
  have f6 := h6.free 0
  have hst : (store ⟨g6,0,none⟩ (.func (.func 77) #[] #[.pointer (some ⟨g3,0,none⟩),.pointer (some ⟨g5,0,none⟩),.pointer (some ⟨g1,0,none⟩),.pointer (some ⟨g6,0,none⟩)])).run Try.prog w = stored Try.prog w ⟨g6,0,none⟩ (.func (.func 77) #[] #[.pointer (some ⟨g3,0,none⟩),.pointer (some ⟨g5,0,none⟩),.pointer (some ⟨g1,0,none⟩),.pointer (some ⟨g6,0,none⟩)]) .plain := run_store _ _ _ _ _ rfl
  unfold QPL
  go_wp2_with fail
  have b6 := h6.put1 (.func (.func 77) #[] #[.pointer (some ⟨g3,0,none⟩),.pointer (some ⟨g5,0,none⟩),.pointer (some ⟨g1,0,none⟩),.pointer (some ⟨g6,0,none⟩)])
  have hq := hB.setCell (p := ⟨g6,0,none⟩) hg6 (.func (.func 77) #[] #[.pointer (some ⟨g3,0,none⟩),.pointer (some ⟨g5,0,none⟩),.pointer (some ⟨g1,0,none⟩),.pointer (some ⟨g6,0,none⟩)])
  have hmb : bm ≠ g6 := by
    intro e
    exact bk_ne_memo h6 hm e.symm
  have hm2 := hm.kept (grownBy_setCellA w g6 0 (.func (.func 77) #[] #[.pointer (some ⟨g3,0,none⟩),.pointer (some ⟨g5,0,none⟩),.pointer (some ⟨g1,0,none⟩),.pointer (some ⟨g6,0,none⟩)])) (by intro e; injection e with e; exact hmb e)
  have k3 := h3.other (p := ⟨g6,0,none⟩) (by exact fun e => hne.1 e.symm) (.func (.func 77) #[] #[.pointer (some ⟨g3,0,none⟩),.pointer (some ⟨g5,0,none⟩),.pointer (some ⟨g1,0,none⟩),.pointer (some ⟨g6,0,none⟩)])
  have k5 := h5.other (p := ⟨g6,0,none⟩) (by exact fun e => hne.2.1 e.symm) (.func (.func 77) #[] #[.pointer (some ⟨g3,0,none⟩),.pointer (some ⟨g5,0,none⟩),.pointer (some ⟨g1,0,none⟩),.pointer (some ⟨g6,0,none⟩)])
  have k1 := h1.other (p := ⟨g6,0,none⟩) (by exact fun e => hne.2.2 e.symm) (.func (.func 77) #[] #[.pointer (some ⟨g3,0,none⟩),.pointer (some ⟨g5,0,none⟩),.pointer (some ⟨g1,0,none⟩),.pointer (some ⟨g6,0,none⟩)])
  have y6 := b6.at_ 0 _ rfl
  first | rw [plrest5_eq] | skip
  go_wp2_with fail
  go_ret
  exact ⟨g3,g5,g1,g6,bm,rfl,⟨k3,k5,k1,b6⟩,hm2,hq,hbmw⟩
set_option maxHeartbeats 4000000 in
set_option maxRecDepth 1000000 in
theorem player_any (J : Jb) (sa : Option Addr) (sn sc : Nat) (w : World) (hJ : J.In 100) (hn : sn = J.sh.length) (h : Rg w w.heap.size sa J.sh) :
    Calls Try.prog 48 #[.agg (jobC J (.slice sa sn sc))] w (fun e w' => ∃ Bw Bf Bj Bb bm,e = .returned (.func (.func 77) #[] #[.pointer (some ⟨Bw,0,none⟩),.pointer (some ⟨Bf,0,none⟩),.pointer (some ⟨Bj,0,none⟩),.pointer (some ⟨Bb,0,none⟩)]) ∧ Env J (.slice sa sn sc) Bw Bf Bj Bb bm w' ∧ Memo J w' bm 0 ∧ Below w.heap.size w w' ∧ w.heap.size ≤ bm) := by
  have b0 := Bk.new w 30 (jobC J (.slice sa sn sc))
  have q0 : Below w.heap.size w (w.alloc (.cells (jobC J (.slice sa sn sc)) 30)) := (Below.refl _ _).alloc (Nat.le_refl _) _
  have HB := hidMk b0
  have HQ := hidMk q0
  have HR := hidMk (h.up q0)
  have HN := hidMk hn
  have HJ := hidMk hJ
  have hmm := @run_makeMap Try.prog
  clear b0 q0 h hn hJ
  go_enter Try.func48,Try.ntmps48
  show Code.wp Try.prog plbody (QPL J sa sn sc w) _ _
  rw [plbody_eq]
  go_wp2_with fail
  rw [plrest1_eq]
  go_wp2_with (first | (refine wpList_load_row rfl 30 _ rfl w.heap.size rfl _ (jobC J (.slice sa sn sc)) _ _ HB.out Try.underlying30 rfl szJob ?_))
  refine (windows_any J sa sn sc _ (HJ.out.mono (by decide)) HN.out HR.out).mono ?_
  rintro e w2 ⟨rfl,hb⟩
  have H2 := hidMk (HQ.out.trans (hb.mono HQ.out.size))
  have HB2 := hidMk (HB.out.below hb HB.out.lt)
  clear hb
  go_wp2_with fail
  rw [plrest2_eq]
  go_wp2_with fail
  rw [plrest3_eq]
  go_wp2_with fail
  have l1 := HB2.out.lt
  have hz := H2.out.size
  have mk := Memo.made J ((w2.alloc (.cells #[.int .i64 (win J.wi J.sh).1,.int .i64 (win J.wi J.sh).2] 23)).alloc (.cells #[.int .i64 (pos J.wi J.sh).1,.int .i64 (pos J.wi J.sh).2] 23))
  have hs : ((w2.alloc (.cells #[.int .i64 (win J.wi J.sh).1,.int .i64 (win J.wi J.sh).2] 23)).alloc (.cells #[.int .i64 (pos J.wi J.sh).1,.int .i64 (pos J.wi J.sh).2] 23)).heap.size = w2.heap.size + 1 + 1 := by simp
  rw [hs] at mk
  refine plpart4 (bm := w2.heap.size + 1 + 1) (Bk.alloc (Bk.alloc (Bk.alloc (Bk.alloc (Bk.new _ _ _) _) _) _) _) (Bk.alloc (Bk.newAt _ _ _ _ (by simp)) _) (Bk.alloc (Bk.alloc (Bk.alloc (Bk.alloc (Bk.alloc HB2.out _) _) _) _) _) (Bk.newAt _ _ _ _ (by simp)) (by omega) ((mk.kept (World.grownBy_alloc _ _ none) (by simp)).kept (World.grownBy_alloc _ _ none) (by simp)) (((((H2.out.alloc hz _).alloc (by simp; omega) _).alloc (by simp; omega) _).alloc (by simp; omega) _).alloc (by simp; omega) _) (by omega) (by omega)
end Go.Proofs.Ytadmcafbffjjbaa
