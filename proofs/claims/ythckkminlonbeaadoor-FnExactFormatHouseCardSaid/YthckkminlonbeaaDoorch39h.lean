/- Contracts of the functions that the laws run. -/
import Derived.Test.YthckkminlonbeaaDoorch39g
import Derived.Test.YthckkminlonbeaaDoorch33a
import Derived.Test.YthckkminlonbeaaDoorEngB
namespace Go.Proofs.YthckkminlonbeaaDoor
open Go Go.Eng
set_option linter.unusedSimpArgs false
set_option linter.unusedVariables false
set_option maxRecDepth 10000
set_option maxHeartbeats 1000000
@[simp] theorem c24_six (a b c d e f : Int) : c24.fn [.sl false 1 (.lit (.int .i64 0)) [dI a, dI b, dI c, dI d, dI e, dI f]] [] = some (6 ≤ 1048576 ∧ ∀ x ∈ [a, b, c, d, e, f], okI x, dS (mView ([a, b, c, d, e, f].map mInt)), []) := c24_fn [a, b, c, d, e, f]
@[simp] theorem c16_six (a b c d e f : Int) : c16.fn [.sl false 1 (.lit (.int .i64 0)) [dI a, dI b, dI c, dI d, dI e, dI f]] [] = some (6 ≤ 1048576 ∧ ∀ x ∈ [a, b, c, d, e, f], okI x, dS (mView ([a, b, c, d, e, f].map mInt)), []) := c16_fn [a, b, c, d, e, f]
def mFormatHouse (h : THouse) : ByteArray := mView (([h.No, h.Now, h.Finds.length, h.Claims.length, h.Chain.length, h.Book.length] : List Int).map mInt)
theorem okI_len {n : Nat} (h : n ≤ 1073741823) : okI n := by simp only [okI]; omega
/-- loop.example/g03007/impl.FormatHouse -/
noncomputable def c7 : Con := mkCon 7 false (α := THouse) (fun x => (fun (h : THouse) => [encTHouse h]) x) (fun _ => []) (fun x => (fun (h : THouse) => smH h ∧ okI h.No ∧ okI h.Now) x) (fun x => (fun (h : THouse) => (dS (mFormatHouse h) : D)) x) (fun x => (fun (h : THouse) => []) x)
@[simp] theorem c7_f : c7.f = 7 := rfl
@[simp] theorem c7_own : c7.own = false := rfl
theorem c7_inj : ∀ u_ v_ : THouse, ((fun x => (fun (h : THouse) => [encTHouse h]) x) u_).map nz = ((fun x => (fun (h : THouse) => [encTHouse h]) x) v_).map nz → u_ = v_ := by
  intro u_ v_ h
  obtain ⟨h_No, h_Finds, h_Secrets, h_Slots, h_Claims, h_Trials, h_Chain, h_Book, h_Now⟩ := u_
  obtain ⟨h_No', h_Finds', h_Secrets', h_Slots', h_Claims', h_Trials', h_Chain', h_Book', h_Now'⟩ := v_
  simp [nz_lit, nz1_lit, nz_agg, nz_sl, nz1_sl, encLTClaim, encLTEntry, encLTFind, encLTHand, encLTSecret, encLTSlot, encLTTrial, encTHouse] at h
  first | (simp [h]; done) | (obtain ⟨⟩ := h; simp_all; done) | simp_all
@[simp] theorem c7_fn (h_No : Int) (h_Finds : List TFind) (h_Secrets : List TSecret) (h_Slots : List TSlot) (h_Claims : List TClaim) (h_Trials : List TTrial) (h_Chain : List THand) (h_Book : List TEntry) (h_Now : Int) : c7.fn [.agg [.lit (.int .i64 h_No), .sl false 8 yTFind (ML encTFind h_Finds), .sl false 3 yTSecret (ML encTSecret h_Secrets), .sl false 3 yTSlot (ML encTSlot h_Slots), .sl false 5 yTClaim (ML encTClaim h_Claims), .sl false 4 yTTrial (ML encTTrial h_Trials), .sl false 5 yTHand (ML encTHand h_Chain), .sl false 4 yTEntry (ML encTEntry h_Book), .lit (.int .i64 h_Now)]] [] = some ((fun (h : THouse) => smH h ∧ okI h.No ∧ okI h.Now) ⟨h_No, h_Finds, h_Secrets, h_Slots, h_Claims, h_Trials, h_Chain, h_Book, h_Now⟩, (fun (h : THouse) => (dS (mFormatHouse h) : D)) ⟨h_No, h_Finds, h_Secrets, h_Slots, h_Claims, h_Trials, h_Chain, h_Book, h_Now⟩, (fun (h : THouse) => []) ⟨h_No, h_Finds, h_Secrets, h_Slots, h_Claims, h_Trials, h_Chain, h_Book, h_Now⟩) :=
  mkCon_fn (fun x y h _ => c7_inj x y h) (⟨h_No, h_Finds, h_Secrets, h_Slots, h_Claims, h_Trials, h_Chain, h_Book, h_Now⟩ : THouse) (by simp [nz, nz1, ML_nil, encLTClaim, encLTEntry, encLTFind, encLTHand, encLTSecret, encLTSlot, encLTTrial, encTHouse]) rfl
theorem c7_pc (h : THouse) (hpre : smH h ∧ okI h.No ∧ okI h.Now) : PCo Tryd.prog 7 [encTHouse h] (Tab.of []) (dS (mFormatHouse h)) (Tab.of []) := by
  refine pco_of_run [] (E := ⟨[c24], [], []⟩) (m := false) (base := 0) (Env.ok_cons c24_ok Env.ok_nil) G_ok mix 300 6 Tryd.func7 (by kernel_rfl) rfl (by kernel_rfl) (by kernel_rfl) rfl ?_
  simp at hpre
  simp [Tryd.f7, hpre]
  obtain ⟨⟨h1, _, _, h4, _, h6, h7⟩, _⟩ := hpre
  exact ⟨⟨okI_len h1, okI_len h4, okI_len h6, okI_len h7⟩, rfl⟩
theorem c7_ok : c7.ok Tryd.prog := mkCon_ok fun h hpre => c7_pc h hpre
/-- loop.example/g03007/spec.FormatHouse -/
noncomputable def c5 : Con := mkCon 5 false (α := THouse) (fun x => (fun (h : THouse) => [encTHouse h]) x) (fun _ => []) (fun x => (fun (h : THouse) => smH h ∧ okI h.No ∧ okI h.Now) x) (fun x => (fun (h : THouse) => (dS (mFormatHouse h) : D)) x) (fun x => (fun (h : THouse) => []) x)
@[simp] theorem c5_f : c5.f = 5 := rfl
@[simp] theorem c5_own : c5.own = false := rfl
theorem c5_inj : ∀ u_ v_ : THouse, ((fun x => (fun (h : THouse) => [encTHouse h]) x) u_).map nz = ((fun x => (fun (h : THouse) => [encTHouse h]) x) v_).map nz → u_ = v_ := by
  intro u_ v_ h
  obtain ⟨h_No, h_Finds, h_Secrets, h_Slots, h_Claims, h_Trials, h_Chain, h_Book, h_Now⟩ := u_
  obtain ⟨h_No', h_Finds', h_Secrets', h_Slots', h_Claims', h_Trials', h_Chain', h_Book', h_Now'⟩ := v_
  simp [nz_lit, nz1_lit, nz_agg, nz_sl, nz1_sl, encLTClaim, encLTEntry, encLTFind, encLTHand, encLTSecret, encLTSlot, encLTTrial, encTHouse] at h
  first | (simp [h]; done) | (obtain ⟨⟩ := h; simp_all; done) | simp_all
@[simp] theorem c5_fn (h_No : Int) (h_Finds : List TFind) (h_Secrets : List TSecret) (h_Slots : List TSlot) (h_Claims : List TClaim) (h_Trials : List TTrial) (h_Chain : List THand) (h_Book : List TEntry) (h_Now : Int) : c5.fn [.agg [.lit (.int .i64 h_No), .sl false 8 yTFind (ML encTFind h_Finds), .sl false 3 yTSecret (ML encTSecret h_Secrets), .sl false 3 yTSlot (ML encTSlot h_Slots), .sl false 5 yTClaim (ML encTClaim h_Claims), .sl false 4 yTTrial (ML encTTrial h_Trials), .sl false 5 yTHand (ML encTHand h_Chain), .sl false 4 yTEntry (ML encTEntry h_Book), .lit (.int .i64 h_Now)]] [] = some ((fun (h : THouse) => smH h ∧ okI h.No ∧ okI h.Now) ⟨h_No, h_Finds, h_Secrets, h_Slots, h_Claims, h_Trials, h_Chain, h_Book, h_Now⟩, (fun (h : THouse) => (dS (mFormatHouse h) : D)) ⟨h_No, h_Finds, h_Secrets, h_Slots, h_Claims, h_Trials, h_Chain, h_Book, h_Now⟩, (fun (h : THouse) => []) ⟨h_No, h_Finds, h_Secrets, h_Slots, h_Claims, h_Trials, h_Chain, h_Book, h_Now⟩) :=
  mkCon_fn (fun x y h _ => c5_inj x y h) (⟨h_No, h_Finds, h_Secrets, h_Slots, h_Claims, h_Trials, h_Chain, h_Book, h_Now⟩ : THouse) (by simp [nz, nz1, ML_nil, encLTClaim, encLTEntry, encLTFind, encLTHand, encLTSecret, encLTSlot, encLTTrial, encTHouse]) rfl
theorem c5_pc (h : THouse) (hpre : smH h ∧ okI h.No ∧ okI h.Now) : PCo Tryd.prog 5 [encTHouse h] (Tab.of []) (dS (mFormatHouse h)) (Tab.of []) := by
  refine pco_of_run [] (E := ⟨[c16], [], []⟩) (m := false) (base := 0) (Env.ok_cons c16_ok Env.ok_nil) G_ok mix 300 6 Tryd.func5 (by kernel_rfl) rfl (by kernel_rfl) (by kernel_rfl) rfl ?_
  simp at hpre
  simp [Tryd.f5, hpre]
  obtain ⟨⟨h1, _, _, h4, _, h6, h7⟩, _⟩ := hpre
  exact ⟨⟨okI_len h1, okI_len h4, okI_len h6, okI_len h7⟩, rfl⟩
theorem c5_ok : c5.ok Tryd.prog := mkCon_ok fun h hpre => c5_pc h hpre
theorem wfH_len {h : THouse} (w : wfTHouse h) : smHM h := by
  obtain ⟨_, w1, w2, w3, w4, w5, w6, w7, _⟩ := w
  exact ⟨w1.1, ⟨w2.1, fun x hx => wfS_len (w2.2 x hx)⟩, w3.1, w4.1, w5.1, w6.1, w7.1⟩
theorem wfH_okI {h : THouse} (w : wfTHouse h) : okI h.No ∧ okI h.Now := by
  obtain ⟨w0, _, _, _, _, _, _, _, w8⟩ := w
  exact ⟨by simpa [inR, okI] using w0, by simpa [inR, okI] using w8⟩
/-- loop.example/g03007/laws.FnExactFormatHouse -/
theorem law3 (h : THouse) (wh : wfTHouse h) : PCo Tryd.prog 3 [encTHouse h] (Tab.of []) (dB true) (Tab.of []) := by
  refine pco_of_run [1000006] (E := ⟨[c4, c5, c6, c7, c8], [], []⟩) (m := false) (base := 0) (Env.ok_cons c4_ok (Env.ok_cons c5_ok (Env.ok_cons c6_ok (Env.ok_cons c7_ok (Env.ok_cons c8_ok Env.ok_nil))))) G_ok mix 400 6 Tryd.func3 (by kernel_rfl) rfl (by kernel_rfl) (by kernel_rfl) rfl ?_
  simp (config := {maxSteps := 3000000}) [Tryd.f3]
  have h1 := wfH_len wh
  have h9 := wfH_okI wh
  refine ⟨h1, fun hs => ?_⟩
  obtain ⟨_, k1, ⟨k2, k3⟩, k4, k5, k6, k7, k8⟩ := szHo_ok hs
  have k9 : ∀ x ∈ h.Secrets, x.Marks.length ≤ 1073741823 := fun x hx => by have := k3 x hx; omega
  repeat' (first | exact k9 | exact h9.1 | exact h9.2 | omega | refine And.intro ?_ ?_ | intro _)
theorem law3_pc (D0 : D) (h0 : Sh G 9 30 D0) : PC Tryd.prog 3 [D0] (dB true) [] := by
  obtain ⟨h, rfl, wh⟩ := sh30 (n := 3) h0
  exact law3 h wh

end Go.Proofs.YthckkminlonbeaaDoor
