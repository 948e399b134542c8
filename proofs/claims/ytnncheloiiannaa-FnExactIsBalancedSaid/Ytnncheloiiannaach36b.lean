/- Contracts of the functions that the laws run. -/
import Derived.Test.Ytnncheloiiannaach29y
import Derived.Test.Ytnncheloiiannaach33a
import Derived.Test.YtnncheloiiannaaEngB
namespace Go.Proofs.Ytnncheloiiannaa
open Go Go.Eng
set_option linter.unusedSimpArgs false
set_option linter.unusedVariables false
set_option maxRecDepth 10000
set_option maxHeartbeats 1000000
def tOf (l : List TEntry) (us : List Int) : Int := us.foldl (fun n a => n + mSumOf (balOf a) l) 0
theorem tOf_at {l : List TEntry} {us : List Int} {p : Nat} (h : p < us.length) : tOf l (us.take (p + 1)) = tOf l (us.take p) + mSumOf (balOf (us[p]?.getD 0)) l := by
  simp only [tOf]; rw [foldl_at (d := 0) h]
theorem mSumOf_bd (a : Int) (l : List TEntry) : -1000000000 ≤ mSumOf (balOf a) l ∧ mSumOf (balOf a) l ≤ 1000000000 := by
  cases ha : mAreEntries l with
  | false => rw [mSumOf_no ha]; omega
  | true =>
    have he := entries_of ha
    have hb := sumBy_bd (g := balOf a) (fun x hx => balOf_bd (he.2 x hx)) l.length (Nat.le_refl _)
    rw [List.take_length] at hb
    rw [mSumOf_yes ha]; omega
theorem tOf_bd (l : List TEntry) (us : List Int) : ∀ p, p ≤ us.length → -1000000000 * (p : Int) ≤ tOf l (us.take p) ∧ tOf l (us.take p) ≤ 1000000000 * p
  | 0, _ => by simp [tOf]
  | p + 1, h => by
    have h1 := tOf_bd l us p (by omega)
    have h2 := mSumOf_bd (us[p]?.getD 0) l
    rw [tOf_at (by omega)]; omega
def mBal (h : THouse) : Bool := decide (tOf h.Book (mOnce (accL h.Book) []) = 0) && decide (0 ≤ mSumOf (balOf 0) h.Book)
/-- loop.example/g03007/impl.IsBalanced -/
noncomputable def c7 : Con := mkCon 7 false (α := THouse) (fun x => (fun (h : THouse) => [encTHouse h]) x) (fun _ => []) (fun x => (fun (h : THouse) => smH h ∧ h.Book.length ≤ 1048576) x) (fun x => (fun (h : THouse) => (dB (mBal h) : D)) x) (fun x => (fun (h : THouse) => []) x)
@[simp] theorem c7_f : c7.f = 7 := rfl
@[simp] theorem c7_own : c7.own = false := rfl
theorem c7_inj : ∀ u_ v_ : THouse, ((fun x => (fun (h : THouse) => [encTHouse h]) x) u_).map nz = ((fun x => (fun (h : THouse) => [encTHouse h]) x) v_).map nz → u_ = v_ := by
  intro u_ v_ h
  obtain ⟨h_No, h_Finds, h_Secrets, h_Slots, h_Claims, h_Trials, h_Chain, h_Book, h_Now⟩ := u_
  obtain ⟨h_No', h_Finds', h_Secrets', h_Slots', h_Claims', h_Trials', h_Chain', h_Book', h_Now'⟩ := v_
  simp [nz_lit, nz1_lit, nz_agg, nz_sl, nz1_sl, encLTClaim, encLTEntry, encLTFind, encLTHand, encLTSecret, encLTSlot, encLTTrial, encTHouse] at h
  first | (simp [h]; done) | (obtain ⟨⟩ := h; simp_all; done) | simp_all
@[simp] theorem c7_fn (h_No : Int) (h_Finds : List TFind) (h_Secrets : List TSecret) (h_Slots : List TSlot) (h_Claims : List TClaim) (h_Trials : List TTrial) (h_Chain : List THand) (h_Book : List TEntry) (h_Now : Int) : c7.fn [.agg [.lit (.int .i64 h_No), .sl false 8 yTFind (ML encTFind h_Finds), .sl false 3 yTSecret (ML encTSecret h_Secrets), .sl false 3 yTSlot (ML encTSlot h_Slots), .sl false 5 yTClaim (ML encTClaim h_Claims), .sl false 4 yTTrial (ML encTTrial h_Trials), .sl false 5 yTHand (ML encTHand h_Chain), .sl false 4 yTEntry (ML encTEntry h_Book), .lit (.int .i64 h_Now)]] [] = some ((fun (h : THouse) => smH h ∧ h.Book.length ≤ 1048576) ⟨h_No, h_Finds, h_Secrets, h_Slots, h_Claims, h_Trials, h_Chain, h_Book, h_Now⟩, (fun (h : THouse) => (dB (mBal h) : D)) ⟨h_No, h_Finds, h_Secrets, h_Slots, h_Claims, h_Trials, h_Chain, h_Book, h_Now⟩, (fun (h : THouse) => []) ⟨h_No, h_Finds, h_Secrets, h_Slots, h_Claims, h_Trials, h_Chain, h_Book, h_Now⟩) :=
  mkCon_fn (fun x y h _ => c7_inj x y h) (⟨h_No, h_Finds, h_Secrets, h_Slots, h_Claims, h_Trials, h_Chain, h_Book, h_Now⟩ : THouse) (by simp [nz, nz1, ML_nil, encLTClaim, encLTEntry, encLTFind, encLTHand, encLTSecret, encLTSlot, encLTTrial, encTHouse]) rfl
theorem c7_pc (h : THouse) (hpre : smH h ∧ h.Book.length ≤ 1048576) : PCo Try.prog 7 [encTHouse h] (Tab.of []) (dB (mBal h)) (Tab.of []) := by
  refine pco_of_run [] (E := ⟨[c25f, c26], [], []⟩) (m := false) (base := 0) (Env.ok_cons c25f_ok (Env.ok_cons c26_ok Env.ok_nil)) G_ok mix 300 6 Try.func7 (by kernel_rfl) rfl (by kernel_rfl) (by kernel_rfl) rfl ?_
  simp [Try.f7]
  simp at hpre
  have q1 := mOnce_le (accL h.Book) []
  have q2 := accL_len h.Book
  simp at q1
  generalize has : mOnce (accL h.Book) [] = us at *
  have hm : mBal h = (decide (tOf h.Book us = 0) && decide (0 ≤ mSumOf (balOf 0) h.Book)) := by rw [mBal, has]
  refine ⟨by omega, ?_⟩
  refine loop_inv (fun p : Nat => p ≤ us.length) (fun p => [(1, .ptr (0, 1) 0), (3, dI (tOf h.Book (us.take p))), (8, .own (1, 1) 1 0 us.length), (9, dI us.length), (10, dI p)]) (fun p => [((0, 1), .box (encTHouse h)), ((1, 1), .arr false 1 (dI 0) (ML dI us))]) 2 (fun p => us.length - p) 0 400 (by simp) (by simp) (by simp [tOf]) ?_
  intro p hp
  have hb := tOf_bd h.Book us p hp
  simp
  refine ⟨fun hlt => ?_, fun hge => ?_⟩
  · have hs := tOf_at (l := h.Book) hlt
    have hc := mSumOf_bd (us[p]?.getD 0) h.Book
    repeat' (first | omega | refine And.intro ?_ ?_ | intro _)
    all_goals first | exact Again.mk (p + 1) (by omega) (by simp [hs]) (by first | omega | (simp; omega)) | trace_state
  · rw [List.take_of_length_le hge]
    rw [hm]
    have e : (tOf h.Book us == 0) = decide (tOf h.Book us = 0) := rfl
    rw [e]
    exact ⟨fun _ => by omega, rfl⟩
theorem c7_ok : c7.ok Try.prog := mkCon_ok fun h hpre => c7_pc h hpre
/-- loop.example/g03007/spec.IsBalanced -/
noncomputable def c5 : Con := mkCon 5 false (α := THouse) (fun x => (fun (h : THouse) => [encTHouse h]) x) (fun _ => []) (fun x => (fun (h : THouse) => smH h ∧ h.Book.length ≤ 1048576) x) (fun x => (fun (h : THouse) => (dB (mBal h) : D)) x) (fun x => (fun (h : THouse) => []) x)
@[simp] theorem c5_f : c5.f = 5 := rfl
@[simp] theorem c5_own : c5.own = false := rfl
theorem c5_inj : ∀ u_ v_ : THouse, ((fun x => (fun (h : THouse) => [encTHouse h]) x) u_).map nz = ((fun x => (fun (h : THouse) => [encTHouse h]) x) v_).map nz → u_ = v_ := by
  intro u_ v_ h
  obtain ⟨h_No, h_Finds, h_Secrets, h_Slots, h_Claims, h_Trials, h_Chain, h_Book, h_Now⟩ := u_
  obtain ⟨h_No', h_Finds', h_Secrets', h_Slots', h_Claims', h_Trials', h_Chain', h_Book', h_Now'⟩ := v_
  simp [nz_lit, nz1_lit, nz_agg, nz_sl, nz1_sl, encLTClaim, encLTEntry, encLTFind, encLTHand, encLTSecret, encLTSlot, encLTTrial, encTHouse] at h
  first | (simp [h]; done) | (obtain ⟨⟩ := h; simp_all; done) | simp_all
@[simp] theorem c5_fn (h_No : Int) (h_Finds : List TFind) (h_Secrets : List TSecret) (h_Slots : List TSlot) (h_Claims : List TClaim) (h_Trials : List TTrial) (h_Chain : List THand) (h_Book : List TEntry) (h_Now : Int) : c5.fn [.agg [.lit (.int .i64 h_No), .sl false 8 yTFind (ML encTFind h_Finds), .sl false 3 yTSecret (ML encTSecret h_Secrets), .sl false 3 yTSlot (ML encTSlot h_Slots), .sl false 5 yTClaim (ML encTClaim h_Claims), .sl false 4 yTTrial (ML encTTrial h_Trials), .sl false 5 yTHand (ML encTHand h_Chain), .sl false 4 yTEntry (ML encTEntry h_Book), .lit (.int .i64 h_Now)]] [] = some ((fun (h : THouse) => smH h ∧ h.Book.length ≤ 1048576) ⟨h_No, h_Finds, h_Secrets, h_Slots, h_Claims, h_Trials, h_Chain, h_Book, h_Now⟩, (fun (h : THouse) => (dB (mBal h) : D)) ⟨h_No, h_Finds, h_Secrets, h_Slots, h_Claims, h_Trials, h_Chain, h_Book, h_Now⟩, (fun (h : THouse) => []) ⟨h_No, h_Finds, h_Secrets, h_Slots, h_Claims, h_Trials, h_Chain, h_Book, h_Now⟩) :=
  mkCon_fn (fun x y h _ => c5_inj x y h) (⟨h_No, h_Finds, h_Secrets, h_Slots, h_Claims, h_Trials, h_Chain, h_Book, h_Now⟩ : THouse) (by simp [nz, nz1, ML_nil, encLTClaim, encLTEntry, encLTFind, encLTHand, encLTSecret, encLTSlot, encLTTrial, encTHouse]) rfl
theorem c5_pc (h : THouse) (hpre : smH h ∧ h.Book.length ≤ 1048576) : PCo Try.prog 5 [encTHouse h] (Tab.of []) (dB (mBal h)) (Tab.of []) := by
  refine pco_of_run [] (E := ⟨[c16, c17], [], []⟩) (m := false) (base := 0) (Env.ok_cons c16_ok (Env.ok_cons c17_ok Env.ok_nil)) G_ok mix 300 6 Try.func5 (by kernel_rfl) rfl (by kernel_rfl) (by kernel_rfl) rfl ?_
  simp [Try.f5]
  simp at hpre
  have q1 := mOnce_le (accL h.Book) []
  have q2 := accL_len h.Book
  simp at q1
  generalize has : mOnce (accL h.Book) [] = us at *
  have hm : mBal h = (decide (tOf h.Book us = 0) && decide (0 ≤ mSumOf (balOf 0) h.Book)) := by rw [mBal, has]
  refine ⟨by omega, ?_⟩
  refine loop_inv (fun p : Nat => p ≤ us.length) (fun p => [(1, .ptr (0, 1) 0), (3, dI (tOf h.Book (us.take p))), (4, .own (1, 1) 1 0 us.length), (5, dI p)]) (fun p => [((0, 1), .box (encTHouse h)), ((1, 1), .arr false 1 (dI 0) (ML dI us))]) 2 (fun p => us.length - p) 0 400 (by simp) (by simp) (by simp [tOf]) ?_
  intro p hp
  have hb := tOf_bd h.Book us p hp
  simp
  refine ⟨fun hlt => ?_, fun hge => ?_⟩
  · have hs := tOf_at (l := h.Book) hlt
    have hc := mSumOf_bd (us[p]?.getD 0) h.Book
    repeat' (first | omega | refine And.intro ?_ ?_ | intro _)
    all_goals first | exact Again.mk (p + 1) (by omega) (by simp [hs]) (by first | omega | (simp; omega)) | trace_state
  · rw [List.take_of_length_le hge]
    rw [hm]
    have e : (tOf h.Book us == 0) = decide (tOf h.Book us = 0) := rfl
    rw [e]
    exact ⟨fun _ => by omega, rfl⟩
theorem c5_ok : c5.ok Try.prog := mkCon_ok fun h hpre => c5_pc h hpre
theorem wfH_len {h : THouse} (w : wfTHouse h) : smHM h := by
  obtain ⟨_, w1, w2, w3, w4, w5, w6, w7, _⟩ := w
  exact ⟨w1.1, ⟨w2.1, fun x hx => wfS_len (w2.2 x hx)⟩, w3.1, w4.1, w5.1, w6.1, w7.1⟩
/-- loop.example/g03007/laws.FnExactIsBalanced -/
theorem law3 (h : THouse) (wh : wfTHouse h) : PCo Try.prog 3 [encTHouse h] (Tab.of []) (dB true) (Tab.of []) := by
  refine pco_of_run [1000006] (E := ⟨[c4, c5, c6, c7, c8], [], []⟩) (m := false) (base := 0) (Env.ok_cons c4_ok (Env.ok_cons c5_ok (Env.ok_cons c6_ok (Env.ok_cons c7_ok (Env.ok_cons c8_ok Env.ok_nil))))) G_ok mix 400 6 Try.func3 (by kernel_rfl) rfl (by kernel_rfl) (by kernel_rfl) rfl ?_
  simp (config := {maxSteps := 3000000}) [Try.f3]
  have h1 := wfH_len wh
  refine ⟨h1, fun hs => ?_⟩
  obtain ⟨_, k1, ⟨k2, k3⟩, k4, k5, k6, k7, k8⟩ := szHo_ok hs
  have k9 : ∀ x ∈ h.Secrets, x.Marks.length ≤ 1073741823 := fun x hx => by have := k3 x hx; omega
  repeat' (first | exact k9 | omega | refine And.intro ?_ ?_ | intro _)
theorem law3_pc (D0 : D) (h0 : Sh G 9 30 D0) : PC Try.prog 3 [D0] (dB true) [] := by
  obtain ⟨h, rfl, wh⟩ := sh30 (n := 3) h0
  exact law3 h wh

end Go.Proofs.Ytnncheloiiannaa
