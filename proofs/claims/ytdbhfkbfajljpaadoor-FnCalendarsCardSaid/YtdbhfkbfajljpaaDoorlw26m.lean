/- Contracts of the functions that the laws run. -/
import Derived.Test.YtdbhfkbfajljpaaDoorch26b
import Derived.Test.YtdbhfkbfajljpaaDoorch17
import Derived.Test.YtdbhfkbfajljpaaDoorEngB
namespace Go.Proofs.YtdbhfkbfajljpaaDoor
open Go Go.Eng
set_option linter.unusedSimpArgs false
set_option linter.unusedVariables false
set_option maxRecDepth 10000
set_option maxHeartbeats 1000000
def mLastDay (l : List Bool) (f : TFind) : Int := if mIsFind f then mNext l ((mDueHour f).tdiv 24) else -1
theorem due_div {f : TFind} : -1 ≤ (mDueHour f).tdiv 24 ∧ (mDueHour f).tdiv 24 ≤ 104320 := by
  have h := due_bd f
  by_cases h0 : 0 ≤ mDueHour f
  · have := tdiv_bd h0 (show (0 : Int) < 24 by omega); omega
  · have : mDueHour f = -1 := by omega
    rw [this]; decide
/-- loop.example/g03007/impl.dayOf -/
noncomputable def c25 : Con := mkCon 25 false (α := Int) (fun x => (fun (h : Int) => [dI h]) x) (fun _ => []) (fun x => (fun (h : Int) => -1 ≤ h.tdiv 24 ∧ h.tdiv 24 ≤ 1000000) x) (fun x => (fun (h : Int) => (dI (h.tdiv 24) : D)) x) (fun x => (fun (h : Int) => []) x)
@[simp] theorem c25_f : c25.f = 25 := rfl
@[simp] theorem c25_own : c25.own = false := rfl
theorem c25_inj : ∀ u_ v_ : Int, ((fun x => (fun (h : Int) => [dI h]) x) u_).map nz = ((fun x => (fun (h : Int) => [dI h]) x) v_).map nz → u_ = v_ := by
  intro u_ v_ h
  obtain h := u_
  obtain h' := v_
  simp [nz_lit, nz1_lit, nz_agg, nz_sl, nz1_sl] at h
  first | (simp [h]; done) | (obtain ⟨⟩ := h; simp_all; done) | simp_all
@[simp] theorem c25_fn (h : Int) : c25.fn [.lit (.int .i64 h)] [] = some ((fun (h : Int) => -1 ≤ h.tdiv 24 ∧ h.tdiv 24 ≤ 1000000) h, (fun (h : Int) => (dI (h.tdiv 24) : D)) h, (fun (h : Int) => []) h) :=
  mkCon_fn (fun x y h _ => c25_inj x y h) (h : Int) (by simp [nz, nz1, ML_nil]) rfl
theorem c25_pc (h : Int) (hpre : -1 ≤ h.tdiv 24 ∧ h.tdiv 24 ≤ 1000000) : PCo Tryd.prog 25 [dI h] (Tab.of []) (dI (h.tdiv 24)) (Tab.of []) := by
  refine pco_of_run [] (E := ⟨[], [], []⟩) (m := false) (base := 0) Env.ok_nil G_ok mix 300 6 Tryd.func25 (by kernel_rfl) rfl (by kernel_rfl) (by kernel_rfl) rfl ?_
  simp [Tryd.f25]
  all_goals first | omega | (rw [Bool.eq_iff_iff]; simp; omega) | grind
theorem c25_ok : c25.ok Tryd.prog := mkCon_ok fun h hpre => c25_pc h hpre
/-- loop.example/g03007/impl.LastDay -/
noncomputable def c13 : Con := mkCon 13 false (α := (List Bool) × TFind) (fun x => (fun (l : List Bool) (f : TFind) => [encLB l, encTFind f]) x.1 x.2) (fun _ => []) (fun x => (fun (l : List Bool) (f : TFind) => l.length ≤ 1099511627776) x.1 x.2) (fun x => (fun (l : List Bool) (f : TFind) => (dI (mLastDay l f) : D)) x.1 x.2) (fun x => (fun (l : List Bool) (f : TFind) => []) x.1 x.2)
@[simp] theorem c13_f : c13.f = 13 := rfl
@[simp] theorem c13_own : c13.own = false := rfl
theorem c13_inj : ∀ u_ v_ : (List Bool) × TFind, ((fun x => (fun (l : List Bool) (f : TFind) => [encLB l, encTFind f]) x.1 x.2) u_).map nz = ((fun x => (fun (l : List Bool) (f : TFind) => [encLB l, encTFind f]) x.1 x.2) v_).map nz → u_ = v_ := by
  intro u_ v_ h
  obtain ⟨l, ⟨⟨f_Thing_Id, f_Thing_Kind, f_Thing_Colour, f_Thing_Size, f_Thing_Worth⟩, f_Place, f_At, f_Finder⟩⟩ := u_
  obtain ⟨l', ⟨⟨f_Thing_Id', f_Thing_Kind', f_Thing_Colour', f_Thing_Size', f_Thing_Worth'⟩, f_Place', f_At', f_Finder'⟩⟩ := v_
  simp [nz_lit, nz1_lit, nz_agg, nz_sl, nz1_sl, encLB, encTFind, encTThing] at h
  first | (simp [h]; done) | (obtain ⟨⟩ := h; simp_all; done) | simp_all
@[simp] theorem c13_fn (l : List Bool) (f_Thing_Id : Int) (f_Thing_Kind : Int) (f_Thing_Colour : Int) (f_Thing_Size : Int) (f_Thing_Worth : Int) (f_Place : Int) (f_At : Int) (f_Finder : Int) : c13.fn [.sl false 1 (.lit (.bool false)) (ML dB l), .agg [.lit (.int .i64 f_Thing_Id), .lit (.int .i64 f_Thing_Kind), .lit (.int .i64 f_Thing_Colour), .lit (.int .i64 f_Thing_Size), .lit (.int .i64 f_Thing_Worth), .lit (.int .i64 f_Place), .lit (.int .i64 f_At), .lit (.int .i64 f_Finder)]] [] = some ((fun (l : List Bool) (f : TFind) => l.length ≤ 1099511627776) l ⟨⟨f_Thing_Id, f_Thing_Kind, f_Thing_Colour, f_Thing_Size, f_Thing_Worth⟩, f_Place, f_At, f_Finder⟩, (fun (l : List Bool) (f : TFind) => (dI (mLastDay l f) : D)) l ⟨⟨f_Thing_Id, f_Thing_Kind, f_Thing_Colour, f_Thing_Size, f_Thing_Worth⟩, f_Place, f_At, f_Finder⟩, (fun (l : List Bool) (f : TFind) => []) l ⟨⟨f_Thing_Id, f_Thing_Kind, f_Thing_Colour, f_Thing_Size, f_Thing_Worth⟩, f_Place, f_At, f_Finder⟩) :=
  mkCon_fn (fun x y h _ => c13_inj x y h) ((l, ⟨⟨f_Thing_Id, f_Thing_Kind, f_Thing_Colour, f_Thing_Size, f_Thing_Worth⟩, f_Place, f_At, f_Finder⟩) : (List Bool) × TFind) (by simp [nz, nz1, ML_nil, encLB, encTFind, encTThing]) rfl
@[simp] theorem c13_fn1 (s_l : Nat) (z_l : D) (f_Thing_Id : Int) (f_Thing_Kind : Int) (f_Thing_Colour : Int) (f_Thing_Size : Int) (f_Thing_Worth : Int) (f_Place : Int) (f_At : Int) (f_Finder : Int) : c13.fn [.sl false s_l z_l [], .agg [.lit (.int .i64 f_Thing_Id), .lit (.int .i64 f_Thing_Kind), .lit (.int .i64 f_Thing_Colour), .lit (.int .i64 f_Thing_Size), .lit (.int .i64 f_Thing_Worth), .lit (.int .i64 f_Place), .lit (.int .i64 f_At), .lit (.int .i64 f_Finder)]] [] = some ((fun (l : List Bool) (f : TFind) => l.length ≤ 1099511627776) [] ⟨⟨f_Thing_Id, f_Thing_Kind, f_Thing_Colour, f_Thing_Size, f_Thing_Worth⟩, f_Place, f_At, f_Finder⟩, (fun (l : List Bool) (f : TFind) => (dI (mLastDay l f) : D)) [] ⟨⟨f_Thing_Id, f_Thing_Kind, f_Thing_Colour, f_Thing_Size, f_Thing_Worth⟩, f_Place, f_At, f_Finder⟩, (fun (l : List Bool) (f : TFind) => []) [] ⟨⟨f_Thing_Id, f_Thing_Kind, f_Thing_Colour, f_Thing_Size, f_Thing_Worth⟩, f_Place, f_At, f_Finder⟩) :=
  mkCon_fn (fun x y h _ => c13_inj x y h) (([], ⟨⟨f_Thing_Id, f_Thing_Kind, f_Thing_Colour, f_Thing_Size, f_Thing_Worth⟩, f_Place, f_At, f_Finder⟩) : (List Bool) × TFind) (by simp [nz, nz1, ML_nil, encLB, encTFind, encTThing]) rfl
theorem c13_pc (l : List Bool) (f : TFind) (hpre : l.length ≤ 1099511627776) : PCo Tryd.prog 13 [encLB l, encTFind f] (Tab.of []) (dI (mLastDay l f)) (Tab.of []) := by
  refine pco_of_run [] (E := ⟨[c10, c14, c24, c25], [], []⟩) (m := false) (base := 0) (Env.ok_cons c10_ok (Env.ok_cons c14_ok (Env.ok_cons c24_ok (Env.ok_cons c25_ok Env.ok_nil)))) G_ok mix 300 6 Tryd.func13 (by kernel_rfl) rfl (by kernel_rfl) (by kernel_rfl) rfl ?_
  have hb := due_bd f
  have hd := due_div (f := f)
  cases h : mIsFind f with
  | true =>
    have e : mLastDay l f = mNext l ((mDueHour f).tdiv 24) := by rw [mLastDay, if_pos h]
    rw [e]
    obtain ⟨⟨f_Thing_Id, f_Thing_Kind, f_Thing_Colour, f_Thing_Size, f_Thing_Worth⟩, f_Place, f_At, f_Finder⟩ := f
    simp [Tryd.f13, h]
    repeat' (first | omega | refine And.intro ?_ ?_ | intro _)
  | false =>
    have e : mLastDay l f = -1 := by rw [mLastDay, if_neg (by simp [h])]
    rw [e]
    obtain ⟨⟨f_Thing_Id, f_Thing_Kind, f_Thing_Colour, f_Thing_Size, f_Thing_Worth⟩, f_Place, f_At, f_Finder⟩ := f
    simp [Tryd.f13, h]
theorem c13_ok : c13.ok Tryd.prog := mkCon_ok fun ⟨l, f⟩ hpre => c13_pc l f hpre
theorem nxF_le (l : List Bool) : ∀ (f : Nat) (d : Int) (k : Nat), k < f → isO l (d + k) = true → nxF l f d ≤ d + k
  | 0, _, k, h, _ => by omega
  | f + 1, d, k, h, hk => by
    simp only [nxF]; split
    · omega
    · rename_i hn
      cases k with
      | zero => simp at hk; exact absurd hk hn
      | succ k =>
        have := nxF_le l f (d + 1) k (by omega) (by push_cast at hk; rw [Int.add_assoc, Int.add_comm 1]; exact hk)
        push_cast; omega
theorem nxO_le {l : List Bool} (h7 : l.length = 7) (h : l.any id = true) (d : Int) : nxO l d ≤ d + 6 := by
  obtain ⟨k, hk, hk2⟩ := any_hit h7 h d
  have := nxF_le l 7 d k hk hk2
  rw [nxO]; omega
theorem nxF_min (l : List Bool) : ∀ (f : Nat) (d i : Int), d ≤ i → i < nxF l f d → isO l i = false
  | 0, d, i, h1, h2 => by simp only [nxF] at h2; omega
  | f + 1, d, i, h1, h2 => by
    simp only [nxF] at h2; split at h2
    · omega
    · rename_i hn
      by_cases e : i = d
      · subst e; simpa using hn
      · exact nxF_min l f (d + 1) i (by omega) h2
theorem next_facts (l : List Bool) (d : Int) : (0 ≤ mNext l d → isCal l = true ∧ mIn d 0 100000 = true ∧ 0 ≤ d ∧ d ≤ 100000 ∧ d ≤ mNext l d ∧ mNext l d ≤ d + 6 ∧ isO l (mNext l d) = true ∧ ∀ i, d ≤ i → i < mNext l d → isO l i = false) ∧ (mNext l d < 0 → mNext l d = -1 ∧ (isCal l && mIn d 0 100000) = false) := by
  cases h : (isCal l && mIn d 0 100000) with
  | true =>
    have hm : mNext l d = nxO l d := by rw [mNext, if_pos h]
    rw [Bool.and_eq_true] at h
    obtain ⟨h7, ha⟩ := isCal_iff.1 h.1
    have hd := mIn_iff.1 h.2
    have hge := nxO_ge l d
    refine ⟨fun _ => ⟨h.1, h.2, by omega, by omega, by omega, ?_, ?_, fun i h1 h2 => ?_⟩, fun hlt => by omega⟩
    · rw [hm]; exact nxO_le h7 ha d
    · rw [hm]; exact nxO_hit h7 ha d
    · rw [hm] at h2; exact nxF_min l 7 d i h1 h2
  | false =>
    have hm : mNext l d = -1 := by rw [mNext, if_neg (by simp [h])]
    exact ⟨fun h0 => by omega, fun _ => ⟨hm, rfl⟩⟩
theorem cntO_add (l : List Bool) (b : Nat) : ∀ (a : Nat) (d : Int), cntO l (a + b) d = cntO l a d + cntO l b (d + a)
  | 0, d => by simp [cntO]
  | a + 1, d => by
    rw [show a + 1 + b = (a + b) + 1 by omega, cntO, cntO, cntO_add l b a (d + 1), show d + 1 + (a : Int) = d + ((a + 1 : Nat) : Int) by push_cast; omega]
    omega
theorem cntO_zero (l : List Bool) : ∀ (m : Nat) (d : Int), (∀ i, d ≤ i → i < d + m → isO l i = false) → cntO l m d = 0
  | 0, _, _ => rfl
  | m + 1, d, h => by
    rw [cntO, h d (by omega) (by push_cast; omega), cntO_zero l m (d + 1) fun i h1 h2 => h i (by omega) (by push_cast; omega)]
    simp
theorem cnt_next {l : List Bool} (h7 : l.length = 7) (ha : l.any id = true) (d : Int) : cntO l (nxO l d - d + 1).toNat d = 1 := by
  have hge := nxO_ge l d
  have e : (nxO l d - d + 1).toNat = (nxO l d - d).toNat + 1 := by omega
  have e2 : d + ((nxO l d - d).toNat : Int) = nxO l d := by omega
  rw [e, cntO_add, cntO_zero l _ d fun i h1 h2 => nxF_min l 7 d i h1 (by rw [e2] at h2; exact h2), e2]
  simp [cntO, nxO_hit h7 ha d]
theorem cnt_add {l : List Bool} (h7 : l.length = 7) (ha : l.any id = true) (d : Int) : ∀ k : Nat, cntO l (addD l k d - d).toNat (d + 1) = k
  | 0 => by simp [addD, cntO]
  | k + 1 => by
    have hb := addD_bd l d k
    have hge := nxO_ge l (addD l k d + 1)
    have hA : addD l (k + 1) d = nxO l (addD l k d + 1) := rfl
    have e : (addD l (k + 1) d - d).toNat = (addD l k d - d).toNat + (nxO l (addD l k d + 1) - (addD l k d + 1) + 1).toNat := by rw [hA]; omega
    have e2 : d + 1 + ((addD l k d - d).toNat : Int) = addD l k d + 1 := by omega
    rw [e, cntO_add, cnt_add h7 ha d k, e2, cnt_next h7 ha]
    push_cast; omega
theorem add_facts (l : List Bool) (d n : Int) : (0 ≤ mAddD l d n → isCal l = true ∧ 0 ≤ d ∧ d ≤ 100000 ∧ d ≤ mAddD l d n ∧ isO l (mAddD l d n) = true ∧ (0 < n → mAddD l d n ≤ 10000 → mBetw l (d + 1) (mAddD l d n) = n)) ∧ (mAddD l d n < 0 → mAddD l d n = -1) := by
  cases h : (isCal l && mIn d 0 100000 && mIn n 0 1000) with
  | true =>
    have hm : mAddD l d n = if n = 0 then nxO l d else addD l n.toNat d := by rw [mAddD, if_pos h]
    rw [Bool.and_eq_true, Bool.and_eq_true] at h
    obtain ⟨⟨hc, h1⟩, h2⟩ := h
    obtain ⟨h7, ha⟩ := isCal_iff.1 hc
    have hd := mIn_iff.1 h1
    have hn := mIn_iff.1 h2
    by_cases hz : n = 0
    · rw [if_pos hz] at hm
      have hge := nxO_ge l d
      refine ⟨fun _ => ⟨hc, by omega, by omega, by omega, by rw [hm]; exact nxO_hit h7 ha d, fun h => by omega⟩, fun h => by omega⟩
    · rw [if_neg hz] at hm
      have hb := addD_bd l d n.toNat
      refine ⟨fun _ => ⟨hc, by omega, by omega, by omega, ?_, fun _ h10 => ?_⟩, fun h => by omega⟩
      · rw [hm, show n.toNat = (n.toNat - 1) + 1 by omega, addD]; exact nxO_hit h7 ha _
      · have hct := cnt_add h7 ha d n.toNat
        rw [mBetw, if_pos ⟨hc, by omega, h10⟩, hm, show addD l n.toNat d - (d + 1) + 1 = addD l n.toNat d - d by omega, hct]
        omega
  | false =>
    have hm : mAddD l d n = -1 := by rw [mAddD, if_neg (by simp [h])]
    exact ⟨fun h => by omega, fun _ => hm⟩
theorem last_facts (l : List Bool) (f : TFind) : mLastDay l f = -1 ∨ (isCal l = true ∧ 0 ≤ mLastDay l f ∧ isO l (mLastDay l f) = true ∧ mDueHour f - 24 ≤ mLastDay l f * 24 ∧ mLastDay l f ≤ 5000 ∧ mIn ((mDueHour f).tdiv 24) 0 100000 = true) := by
  have hd := due_bd f
  rw [mLastDay]; split
  · obtain ⟨n1, n2⟩ := next_facts l ((mDueHour f).tdiv 24)
    by_cases h0 : 0 ≤ mNext l ((mDueHour f).tdiv 24)
    · obtain ⟨a1, a2, a3, a4, a5, a6, a7, _⟩ := n1 h0
      have hdv := due_div (f := f)
      by_cases hp : 0 ≤ mDueHour f
      · have e : (mDueHour f).tdiv 24 = mDueHour f / 24 := Int.tdiv_eq_ediv_of_nonneg hp
        exact .inr ⟨a1, h0, a7, by rw [e] at a5; omega, by rw [e] at a6; omega, a2⟩
      · have e : mDueHour f = -1 := by omega
        have e2 : (-1 : Int).tdiv 24 = 0 := by decide
        have hz : (mDueHour f).tdiv 24 = 0 := by rw [e, e2]
        exact .inr ⟨a1, h0, a7, by omega, by omega, a2⟩
    · exact .inl (n2 (by omega)).1
  · exact .inl rfl

end Go.Proofs.YtdbhfkbfajljpaaDoor
