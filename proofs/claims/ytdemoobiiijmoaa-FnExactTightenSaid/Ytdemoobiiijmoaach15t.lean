/- Contracts of the functions that the laws run. -/
import Derived.Test.Ytdemoobiiijmoaach15p
import Derived.Test.YtdemoobiiijmoaaEngB
namespace Go.Proofs.Ytdemoobiiijmoaa
open Go Go.Eng
set_option linter.unusedSimpArgs false
set_option linter.unusedVariables false
set_option maxRecDepth 10000
set_option maxHeartbeats 1000000
/-- loop.example/g03007/impl.TakeOut -/
noncomputable def c68f : Con := mkCon 68 false (α := (List TSlot) × Int) (fun x => (fun (l : List TSlot) (t : Int) => [encLTSlot l, dI t]) x.1 x.2) (fun _ => []) (fun x => (fun (l : List TSlot) (t : Int) => l.length ≤ 1073741823) x.1 x.2) (fun x => (fun (l : List TSlot) (t : Int) => (.tup [encLTSlot (mTake l t), dB (kTake l t)] : D)) x.1 x.2) (fun x => (fun (l : List TSlot) (t : Int) => []) x.1 x.2)
@[simp] theorem c68f_f : c68f.f = 68 := rfl
@[simp] theorem c68f_own : c68f.own = false := rfl
theorem c68f_inj : ∀ u_ v_ : (List TSlot) × Int, ((fun x => (fun (l : List TSlot) (t : Int) => [encLTSlot l, dI t]) x.1 x.2) u_).map nz = ((fun x => (fun (l : List TSlot) (t : Int) => [encLTSlot l, dI t]) x.1 x.2) v_).map nz → u_ = v_ := by
  intro u_ v_ h
  obtain ⟨l, t⟩ := u_
  obtain ⟨l', t'⟩ := v_
  simp [nz_lit, nz1_lit, nz_agg, nz_sl, nz1_sl, encLTSlot] at h
  first | (simp [h]; done) | (obtain ⟨⟩ := h; simp_all; done) | simp_all
@[simp] theorem c68f_fn (l : List TSlot) (t : Int) : c68f.fn [.sl false 3 yTSlot (ML encTSlot l), .lit (.int .i64 t)] [] = some ((fun (l : List TSlot) (t : Int) => l.length ≤ 1073741823) l t, (fun (l : List TSlot) (t : Int) => (.tup [encLTSlot (mTake l t), dB (kTake l t)] : D)) l t, (fun (l : List TSlot) (t : Int) => []) l t) :=
  mkCon_fn (fun x y h _ => c68f_inj x y h) ((l, t) : (List TSlot) × Int) (by simp [nz, nz1, ML_nil, encLTSlot]) rfl
@[simp] theorem c68f_fn1 (s_l : Nat) (z_l : D) (t : Int) : c68f.fn [.sl false s_l z_l [], .lit (.int .i64 t)] [] = some ((fun (l : List TSlot) (t : Int) => l.length ≤ 1073741823) [] t, (fun (l : List TSlot) (t : Int) => (.tup [encLTSlot (mTake l t), dB (kTake l t)] : D)) [] t, (fun (l : List TSlot) (t : Int) => []) [] t) :=
  mkCon_fn (fun x y h _ => c68f_inj x y h) (([], t) : (List TSlot) × Int) (by simp [nz, nz1, ML_nil, encLTSlot]) rfl
theorem c68f_pc (l : List TSlot) (t : Int) (hpre : l.length ≤ 1073741823) : PCo Try.prog 68 [encLTSlot l, dI t] (Tab.of []) (.tup [encLTSlot (mTake l t), dB (kTake l t)]) (Tab.of []) := by
  refine pco_of_run [] (E := ⟨[c37, c38, c40], [], []⟩) (m := false) (base := 0) (Env.ok_cons c37_ok (Env.ok_cons c38_ok (Env.ok_cons c40_ok Env.ok_nil))) G_ok mix 300 6 Try.func68 (by kernel_rfl) rfl (by kernel_rfl) (by kernel_rfl) rfl ?_
  have hb := indexBy_bd (want := wantT t) l 0
  cases h1 : mAreSlots l with
  | false =>
    have hk : kTake l t = false := by simp [kTake, h1]
    simp [Try.f68, h1, hk, mTake_no hk]
    omega
  | true =>
    rcases look_index (t := t) l 0 (by omega) with ⟨h2, h3⟩ | ⟨k, h2, h3, h4⟩
    · have hk : kTake l t = false := by simp [kTake]; intro _; omega
      simp [Try.f68, h1, h2, hk, mTake_no hk]
      omega
    · have hi : indexBy (wantT t) 0 l = (k : Int) := by omega
      have hk : kTake l t = true := by simp [kTake, h1, hi]
      have hm : l.map (freeId (lookS t l)) = l.set k (freed (l[k]?.getD default)) := by rw [h4]; exact freeId_set (slot_valid h1) h2
      simp [Try.f68, h1, hi, hk, mTake_yes hk, hm]
      first | exact ⟨by omega, by omega, h2, rfl⟩ | trace_state
theorem c68f_ok : c68f.ok Try.prog := mkCon_ok fun ⟨l, t⟩ hpre => c68f_pc l t hpre
def stepT (q : List TSlot × List TThing) (x : TThing) : List TSlot × List TThing := (mTake q.1 x.Id, if kTake q.1 x.Id then q.2 ++ [x] else q.2)
def runT (l : List TSlot) (xs : List TThing) : List TSlot × List TThing := xs.foldl stepT (l, [])
theorem runT_at {l : List TSlot} {xs : List TThing} {p : Nat} (h : p < xs.length) : runT l (xs.take (p + 1)) = stepT (runT l (xs.take p)) (xs[p]?.getD default) := by
  rw [runT, take_at (d := default) h, List.foldl_append]; rfl
theorem runT_len (l : List TSlot) (xs : List TThing) : ∀ p, p ≤ xs.length → (runT l (xs.take p)).1.length = l.length ∧ (runT l (xs.take p)).2.length ≤ p
  | 0, _ => by simp [runT]
  | p + 1, h => by
    have ih := runT_len l xs p (by omega)
    rw [runT_at (by omega)]
    simp only [stepT, mTake_len, ih.1]
    refine ⟨trivial, ?_⟩
    split
    · simp; omega
    · omega
/-- loop.example/g03007/impl.takeAll -/
noncomputable def c49 : Con := mkCon 49 false (α := (List TSlot) × (List TThing)) (fun x => (fun (l : List TSlot) (ts : List TThing) => [encLTSlot l, encLTThing ts]) x.1 x.2) (fun _ => []) (fun x => (fun (l : List TSlot) (ts : List TThing) => l.length ≤ 1048576 ∧ ts.length ≤ 20) x.1 x.2) (fun x => (fun (l : List TSlot) (ts : List TThing) => (.tup [encLTSlot (runT l ts).1, encLTThing (runT l ts).2] : D)) x.1 x.2) (fun x => (fun (l : List TSlot) (ts : List TThing) => []) x.1 x.2)
@[simp] theorem c49_f : c49.f = 49 := rfl
@[simp] theorem c49_own : c49.own = false := rfl
theorem c49_inj : ∀ u_ v_ : (List TSlot) × (List TThing), ((fun x => (fun (l : List TSlot) (ts : List TThing) => [encLTSlot l, encLTThing ts]) x.1 x.2) u_).map nz = ((fun x => (fun (l : List TSlot) (ts : List TThing) => [encLTSlot l, encLTThing ts]) x.1 x.2) v_).map nz → u_ = v_ := by
  intro u_ v_ h
  obtain ⟨l, ts⟩ := u_
  obtain ⟨l', ts'⟩ := v_
  simp [nz_lit, nz1_lit, nz_agg, nz_sl, nz1_sl, encLTSlot, encLTThing] at h
  first | (simp [h]; done) | (obtain ⟨⟩ := h; simp_all; done) | simp_all
@[simp] theorem c49_fn (l : List TSlot) (ts : List TThing) : c49.fn [.sl false 3 yTSlot (ML encTSlot l), .sl false 5 yTThing (ML encTThing ts)] [] = some ((fun (l : List TSlot) (ts : List TThing) => l.length ≤ 1048576 ∧ ts.length ≤ 20) l ts, (fun (l : List TSlot) (ts : List TThing) => (.tup [encLTSlot (runT l ts).1, encLTThing (runT l ts).2] : D)) l ts, (fun (l : List TSlot) (ts : List TThing) => []) l ts) :=
  mkCon_fn (fun x y h _ => c49_inj x y h) ((l, ts) : (List TSlot) × (List TThing)) (by simp [nz, nz1, ML_nil, encLTSlot, encLTThing]) rfl
@[simp] theorem c49_fn1 (s_l : Nat) (z_l : D) (ts : List TThing) : c49.fn [.sl false s_l z_l [], .sl false 5 yTThing (ML encTThing ts)] [] = some ((fun (l : List TSlot) (ts : List TThing) => l.length ≤ 1048576 ∧ ts.length ≤ 20) [] ts, (fun (l : List TSlot) (ts : List TThing) => (.tup [encLTSlot (runT l ts).1, encLTThing (runT l ts).2] : D)) [] ts, (fun (l : List TSlot) (ts : List TThing) => []) [] ts) :=
  mkCon_fn (fun x y h _ => c49_inj x y h) (([], ts) : (List TSlot) × (List TThing)) (by simp [nz, nz1, ML_nil, encLTSlot, encLTThing]) rfl
@[simp] theorem c49_fn2 (l : List TSlot) (s_ts : Nat) (z_ts : D) : c49.fn [.sl false 3 yTSlot (ML encTSlot l), .sl false s_ts z_ts []] [] = some ((fun (l : List TSlot) (ts : List TThing) => l.length ≤ 1048576 ∧ ts.length ≤ 20) l [], (fun (l : List TSlot) (ts : List TThing) => (.tup [encLTSlot (runT l ts).1, encLTThing (runT l ts).2] : D)) l [], (fun (l : List TSlot) (ts : List TThing) => []) l []) :=
  mkCon_fn (fun x y h _ => c49_inj x y h) ((l, []) : (List TSlot) × (List TThing)) (by simp [nz, nz1, ML_nil, encLTSlot, encLTThing]) rfl
@[simp] theorem c49_fn3 (s_l : Nat) (z_l : D) (s_ts : Nat) (z_ts : D) : c49.fn [.sl false s_l z_l [], .sl false s_ts z_ts []] [] = some ((fun (l : List TSlot) (ts : List TThing) => l.length ≤ 1048576 ∧ ts.length ≤ 20) [] [], (fun (l : List TSlot) (ts : List TThing) => (.tup [encLTSlot (runT l ts).1, encLTThing (runT l ts).2] : D)) [] [], (fun (l : List TSlot) (ts : List TThing) => []) [] []) :=
  mkCon_fn (fun x y h _ => c49_inj x y h) (([], []) : (List TSlot) × (List TThing)) (by simp [nz, nz1, ML_nil, encLTSlot, encLTThing]) rfl
theorem c49_pc (l : List TSlot) (ts : List TThing) (hpre : l.length ≤ 1048576 ∧ ts.length ≤ 20) : PCo Try.prog 49 [encLTSlot l, encLTThing ts] (Tab.of []) (.tup [encLTSlot (runT l ts).1, encLTThing (runT l ts).2]) (Tab.of []) := by
  refine pco_of_run [] (E := ⟨[c68f], [], []⟩) (m := false) (base := 0) (Env.ok_cons c68f_ok Env.ok_nil) G_ok mix 300 6 Try.func49 (by kernel_rfl) rfl (by kernel_rfl) (by kernel_rfl) rfl ?_
  simp [Try.f49]
  obtain ⟨pre1, pre2⟩ := hpre
  refine loop_inv (fun p : Nat => p ≤ ts.length) (fun p => [(6, encLTSlot (runT l (ts.take p)).1), (7, .own (0, 1) 5 0 (runT l (ts.take p)).2.length), (14, encLTThing ts), (15, dI ts.length), (16, dI p)]) (fun p => [((0, 1), .arr false 5 yTThing (ML encTThing (runT l (ts.take p)).2))]) 2 (fun p => ts.length - p) 0 400 (by simp) (by simp) (by simp [runT]) ?_
  intro p hp
  have hl := runT_len l ts p hp
  simp
  refine ⟨fun hlt => ?_, fun hge => ?_⟩
  · have hr := runT_at (l := l) hlt
    exact ⟨hlt, by omega, fun hk => ⟨by omega, by omega, Again.mk (p + 1) (by omega) (by simp [hr, stepT, hk]) (by first | omega | (simp; omega))⟩, fun hk => ⟨by omega, Again.mk (p + 1) (by omega) (by simp [hr, stepT, hk]) (by first | omega | (simp; omega))⟩⟩
  · have : p = ts.length := by omega
    subst this
    simp
theorem c49_ok : c49.ok Try.prog := mkCon_ok fun ⟨l, ts⟩ hpre => c49_pc l ts hpre
def mTight (l : List TSlot) (ts : List TThing) : List TSlot := if kAll l ts then (if mLeft (runT l ts).1 (runT l ts).2 = [] then mAll (runT l ts).1 (runT l ts).2 else l) else l
theorem runT_full (l : List TSlot) (ts : List TThing) : (runT l ts).1.length = l.length ∧ (runT l ts).2.length ≤ ts.length := by
  have h := runT_len l ts ts.length (Nat.le_refl _)
  rwa [List.take_length] at h
theorem mTight_len (l : List TSlot) (ts : List TThing) : (mTight l ts).length = l.length := by
  rw [mTight]
  split
  · split
    · rw [mAll_len]; exact (runT_full l ts).1
    · rfl
  · rfl
theorem runP_nil (l : List TSlot) : mAll l [] = l ∧ mLeft l [] = [] := by
  constructor
  · rw [mAll]; split <;> rfl
  · rw [mLeft]; split
    · have : (runP l (sortT [] ([] : List TThing).length)).2 = [] := rfl
      rw [this]; simp [mSort]
    · rfl
/-- loop.example/g03007/impl.Tighten -/
noncomputable def c30 : Con := mkCon 30 false (α := (List TSlot) × (List TThing)) (fun x => (fun (l : List TSlot) (ts : List TThing) => [encLTSlot l, encLTThing ts]) x.1 x.2) (fun _ => []) (fun x => (fun (l : List TSlot) (ts : List TThing) => l.length ≤ 1048576 ∧ ts.length ≤ 1048576) x.1 x.2) (fun x => (fun (l : List TSlot) (ts : List TThing) => (.own (0, 1) 3 0 (mTight l ts).length : D)) x.1 x.2) (fun x => (fun (l : List TSlot) (ts : List TThing) => [((0, 1), .arr false 3 yTSlot (ML encTSlot (mTight l ts)))]) x.1 x.2)
@[simp] theorem c30_f : c30.f = 30 := rfl
@[simp] theorem c30_own : c30.own = false := rfl
theorem c30_inj : ∀ u_ v_ : (List TSlot) × (List TThing), ((fun x => (fun (l : List TSlot) (ts : List TThing) => [encLTSlot l, encLTThing ts]) x.1 x.2) u_).map nz = ((fun x => (fun (l : List TSlot) (ts : List TThing) => [encLTSlot l, encLTThing ts]) x.1 x.2) v_).map nz → u_ = v_ := by
  intro u_ v_ h
  obtain ⟨l, ts⟩ := u_
  obtain ⟨l', ts'⟩ := v_
  simp [nz_lit, nz1_lit, nz_agg, nz_sl, nz1_sl, encLTSlot, encLTThing] at h
  first | (simp [h]; done) | (obtain ⟨⟩ := h; simp_all; done) | simp_all
@[simp] theorem c30_fn (l : List TSlot) (ts : List TThing) : c30.fn [.sl false 3 yTSlot (ML encTSlot l), .sl false 5 yTThing (ML encTThing ts)] [] = some ((fun (l : List TSlot) (ts : List TThing) => l.length ≤ 1048576 ∧ ts.length ≤ 1048576) l ts, (fun (l : List TSlot) (ts : List TThing) => (.own (0, 1) 3 0 (mTight l ts).length : D)) l ts, (fun (l : List TSlot) (ts : List TThing) => [((0, 1), .arr false 3 yTSlot (ML encTSlot (mTight l ts)))]) l ts) :=
  mkCon_fn (fun x y h _ => c30_inj x y h) ((l, ts) : (List TSlot) × (List TThing)) (by simp [nz, nz1, ML_nil, encLTSlot, encLTThing]) rfl
@[simp] theorem c30_fn1 (s_l : Nat) (z_l : D) (ts : List TThing) : c30.fn [.sl false s_l z_l [], .sl false 5 yTThing (ML encTThing ts)] [] = some ((fun (l : List TSlot) (ts : List TThing) => l.length ≤ 1048576 ∧ ts.length ≤ 1048576) [] ts, (fun (l : List TSlot) (ts : List TThing) => (.own (0, 1) 3 0 (mTight l ts).length : D)) [] ts, (fun (l : List TSlot) (ts : List TThing) => [((0, 1), .arr false 3 yTSlot (ML encTSlot (mTight l ts)))]) [] ts) :=
  mkCon_fn (fun x y h _ => c30_inj x y h) (([], ts) : (List TSlot) × (List TThing)) (by simp [nz, nz1, ML_nil, encLTSlot, encLTThing]) rfl
@[simp] theorem c30_fn2 (l : List TSlot) (s_ts : Nat) (z_ts : D) : c30.fn [.sl false 3 yTSlot (ML encTSlot l), .sl false s_ts z_ts []] [] = some ((fun (l : List TSlot) (ts : List TThing) => l.length ≤ 1048576 ∧ ts.length ≤ 1048576) l [], (fun (l : List TSlot) (ts : List TThing) => (.own (0, 1) 3 0 (mTight l ts).length : D)) l [], (fun (l : List TSlot) (ts : List TThing) => [((0, 1), .arr false 3 yTSlot (ML encTSlot (mTight l ts)))]) l []) :=
  mkCon_fn (fun x y h _ => c30_inj x y h) ((l, []) : (List TSlot) × (List TThing)) (by simp [nz, nz1, ML_nil, encLTSlot, encLTThing]) rfl
@[simp] theorem c30_fn3 (s_l : Nat) (z_l : D) (s_ts : Nat) (z_ts : D) : c30.fn [.sl false s_l z_l [], .sl false s_ts z_ts []] [] = some ((fun (l : List TSlot) (ts : List TThing) => l.length ≤ 1048576 ∧ ts.length ≤ 1048576) [] [], (fun (l : List TSlot) (ts : List TThing) => (.own (0, 1) 3 0 (mTight l ts).length : D)) [] [], (fun (l : List TSlot) (ts : List TThing) => [((0, 1), .arr false 3 yTSlot (ML encTSlot (mTight l ts)))]) [] []) :=
  mkCon_fn (fun x y h _ => c30_inj x y h) (([], []) : (List TSlot) × (List TThing)) (by simp [nz, nz1, ML_nil, encLTSlot, encLTThing]) rfl
theorem c30_pc (l : List TSlot) (ts : List TThing) (hpre : l.length ≤ 1048576 ∧ ts.length ≤ 1048576) : PCo Try.prog 30 [encLTSlot l, encLTThing ts] (Tab.of []) (.own (0, 1) 3 0 (mTight l ts).length) (Tab.of [((0, 1), .arr false 3 yTSlot (ML encTSlot (mTight l ts)))]) := by
  refine pco_of_run [] (E := ⟨[c21, c37, c38, c44, c49], [], []⟩) (m := false) (base := 0) (Env.ok_cons c21_ok (Env.ok_cons c37_ok (Env.ok_cons c38_ok (Env.ok_cons c44_ok (Env.ok_cons c49_ok Env.ok_nil))))) G_ok mix 300 6 Try.func30 (by kernel_rfl) rfl (by kernel_rfl) (by kernel_rfl) rfl ?_
  obtain ⟨pre1, pre2⟩ := hpre
  by_cases hk : kAll l ts = true
  · have hk2 := hk
    simp only [kAll, Bool.and_eq_true] at hk2
    have h20 := things_20 hk2.2
    have hr := runT_full l ts
    by_cases hm : mLeft (runT l ts).1 (runT l ts).2 = []
    · have e : mTight l ts = mAll (runT l ts).1 (runT l ts).2 := by rw [mTight, if_pos hk, if_pos hm]
      rw [e]
      simp [Try.f30, hk2.1, hk2.2, hm]
      omega
    · have e : mTight l ts = l := by rw [mTight, if_pos hk, if_neg hm]
      have hm2 : 0 < (mLeft (runT l ts).1 (runT l ts).2).length := List.length_pos_iff.2 hm
      rw [e]
      simp [Try.f30, hk2.1, hk2.2, hm, hm2]
      omega
  · simp only [Bool.not_eq_true] at hk
    have e : mTight l ts = l := by rw [mTight, if_neg (by simp [hk])]
    rw [e]
    cases h1 : mAreSlots l <;> cases h2 : mAreThings ts <;> simp [kAll, h1, h2] at hk <;> simp [Try.f30, h1, h2] <;> omega
theorem c30_ok : c30.ok Try.prog := mkCon_ok fun ⟨l, ts⟩ hpre => c30_pc l ts hpre
/-- loop.example/g03007/spec.Tighten -/
noncomputable def c29 : Con := mkCon 29 false (α := (List TSlot) × (List TThing)) (fun x => (fun (l : List TSlot) (ts : List TThing) => [encLTSlot l, encLTThing ts]) x.1 x.2) (fun _ => []) (fun x => (fun (l : List TSlot) (ts : List TThing) => l.length ≤ 1048576 ∧ ts.length ≤ 1048576) x.1 x.2) (fun x => (fun (l : List TSlot) (ts : List TThing) => (.own (0, 1) 3 0 (mTight l ts).length : D)) x.1 x.2) (fun x => (fun (l : List TSlot) (ts : List TThing) => [((0, 1), .arr false 3 yTSlot (ML encTSlot (mTight l ts)))]) x.1 x.2)
@[simp] theorem c29_f : c29.f = 29 := rfl
@[simp] theorem c29_own : c29.own = false := rfl
theorem c29_inj : ∀ u_ v_ : (List TSlot) × (List TThing), ((fun x => (fun (l : List TSlot) (ts : List TThing) => [encLTSlot l, encLTThing ts]) x.1 x.2) u_).map nz = ((fun x => (fun (l : List TSlot) (ts : List TThing) => [encLTSlot l, encLTThing ts]) x.1 x.2) v_).map nz → u_ = v_ := by
  intro u_ v_ h
  obtain ⟨l, ts⟩ := u_
  obtain ⟨l', ts'⟩ := v_
  simp [nz_lit, nz1_lit, nz_agg, nz_sl, nz1_sl, encLTSlot, encLTThing] at h
  first | (simp [h]; done) | (obtain ⟨⟩ := h; simp_all; done) | simp_all
@[simp] theorem c29_fn (l : List TSlot) (ts : List TThing) : c29.fn [.sl false 3 yTSlot (ML encTSlot l), .sl false 5 yTThing (ML encTThing ts)] [] = some ((fun (l : List TSlot) (ts : List TThing) => l.length ≤ 1048576 ∧ ts.length ≤ 1048576) l ts, (fun (l : List TSlot) (ts : List TThing) => (.own (0, 1) 3 0 (mTight l ts).length : D)) l ts, (fun (l : List TSlot) (ts : List TThing) => [((0, 1), .arr false 3 yTSlot (ML encTSlot (mTight l ts)))]) l ts) :=
  mkCon_fn (fun x y h _ => c29_inj x y h) ((l, ts) : (List TSlot) × (List TThing)) (by simp [nz, nz1, ML_nil, encLTSlot, encLTThing]) rfl
@[simp] theorem c29_fn1 (s_l : Nat) (z_l : D) (ts : List TThing) : c29.fn [.sl false s_l z_l [], .sl false 5 yTThing (ML encTThing ts)] [] = some ((fun (l : List TSlot) (ts : List TThing) => l.length ≤ 1048576 ∧ ts.length ≤ 1048576) [] ts, (fun (l : List TSlot) (ts : List TThing) => (.own (0, 1) 3 0 (mTight l ts).length : D)) [] ts, (fun (l : List TSlot) (ts : List TThing) => [((0, 1), .arr false 3 yTSlot (ML encTSlot (mTight l ts)))]) [] ts) :=
  mkCon_fn (fun x y h _ => c29_inj x y h) (([], ts) : (List TSlot) × (List TThing)) (by simp [nz, nz1, ML_nil, encLTSlot, encLTThing]) rfl
@[simp] theorem c29_fn2 (l : List TSlot) (s_ts : Nat) (z_ts : D) : c29.fn [.sl false 3 yTSlot (ML encTSlot l), .sl false s_ts z_ts []] [] = some ((fun (l : List TSlot) (ts : List TThing) => l.length ≤ 1048576 ∧ ts.length ≤ 1048576) l [], (fun (l : List TSlot) (ts : List TThing) => (.own (0, 1) 3 0 (mTight l ts).length : D)) l [], (fun (l : List TSlot) (ts : List TThing) => [((0, 1), .arr false 3 yTSlot (ML encTSlot (mTight l ts)))]) l []) :=
  mkCon_fn (fun x y h _ => c29_inj x y h) ((l, []) : (List TSlot) × (List TThing)) (by simp [nz, nz1, ML_nil, encLTSlot, encLTThing]) rfl
@[simp] theorem c29_fn3 (s_l : Nat) (z_l : D) (s_ts : Nat) (z_ts : D) : c29.fn [.sl false s_l z_l [], .sl false s_ts z_ts []] [] = some ((fun (l : List TSlot) (ts : List TThing) => l.length ≤ 1048576 ∧ ts.length ≤ 1048576) [] [], (fun (l : List TSlot) (ts : List TThing) => (.own (0, 1) 3 0 (mTight l ts).length : D)) [] [], (fun (l : List TSlot) (ts : List TThing) => [((0, 1), .arr false 3 yTSlot (ML encTSlot (mTight l ts)))]) [] []) :=
  mkCon_fn (fun x y h _ => c29_inj x y h) (([], []) : (List TSlot) × (List TThing)) (by simp [nz, nz1, ML_nil, encLTSlot, encLTThing]) rfl
theorem c29_pc (l : List TSlot) (ts : List TThing) (hpre : l.length ≤ 1048576 ∧ ts.length ≤ 1048576) : PCo Try.prog 29 [encLTSlot l, encLTThing ts] (Tab.of []) (.own (0, 1) 3 0 (mTight l ts).length) (Tab.of [((0, 1), .arr false 3 yTSlot (ML encTSlot (mTight l ts)))]) := by
  refine pco_of_run [] (E := ⟨[c19, c34, c42, c48], [], []⟩) (m := false) (base := 0) (Env.ok_cons c19_ok (Env.ok_cons c34_ok (Env.ok_cons c42_ok (Env.ok_cons c48_ok Env.ok_nil)))) G_ok mix 300 6 Try.func29 (by kernel_rfl) rfl (by kernel_rfl) (by kernel_rfl) rfl ?_
  obtain ⟨pre1, pre2⟩ := hpre
  simp [Try.f29]
  by_cases hk : kAll l ts = true
  · have hk2 := hk
    simp only [kAll, Bool.and_eq_true] at hk2
    have h20 := things_20 hk2.2
    refine ⟨by omega, ?_⟩
    refine loop_inv (fun p : Nat => p ≤ ts.length) (fun p => [(0, encLTSlot l), (1, encLTThing ts), (5, .own (0, 1) 3 0 (runT l (ts.take p)).1.length), (6, .own (1, 1) 5 0 (runT l (ts.take p)).2.length), (7, dI p)]) (fun p => [((0, 1), .arr false 3 yTSlot (ML encTSlot (runT l (ts.take p)).1)), ((1, 1), .arr false 5 yTThing (ML encTThing (runT l (ts.take p)).2))]) 2 (fun p => ts.length - p) 0 400 (by simp) (by simp) (by simp [runT]) ?_
    intro p hp
    have hl := runT_len l ts p hp
    simp [hk2.1, hk2.2]
    refine ⟨⟨fun _ => by omega, fun _ => by omega⟩, fun hlt => ?_, fun hge => ?_⟩
    · have hr := runT_at (l := l) hlt
      exact ⟨⟨hlt, by omega⟩, fun hk => ⟨⟨hlt, by omega⟩, by omega, Again.mk (p + 1) (by omega) (by simp [hr, stepT, hk]) (by first | omega | (simp; omega))⟩, fun hk => ⟨by omega, Again.mk (p + 1) (by omega) (by simp [hr, stepT, hk]) (by first | omega | (simp; omega))⟩⟩
    · have : p = ts.length := by omega
      subst this
      rw [List.take_length] at *
      refine ⟨by omega, fun h => ?_, fun h => ?_⟩
      · have e : mTight l ts = l := by rw [mTight, if_pos hk, if_neg (by intro e; rw [e] at h; simp at h)]
        rw [e]; exact ⟨by omega, rfl, rfl⟩
      · have e : mTight l ts = mAll (runT l ts).1 (runT l ts).2 := by rw [mTight, if_pos hk, if_pos h]
        rw [e]; exact ⟨rfl, rfl⟩
  · simp only [Bool.not_eq_true] at hk
    have e : mTight l ts = l := by rw [mTight, if_neg (by simp [hk])]
    rw [e]
    refine ⟨by omega, ?_⟩
    refine loop_inv (fun _ : Unit => True) (fun _ => [(0, encLTSlot l), (1, encLTThing ts), (5, .own (0, 1) 3 0 l.length), (6, .own (1, 1) 5 0 0), (7, dI 0)]) (fun _ => [((0, 1), .arr false 3 yTSlot (ML encTSlot l)), ((1, 1), .arr false 5 yTThing [])]) 2 (fun _ => 0) () 400 (by simp) (by simp) (by simp) ?_
    intro u _
    have hn := runP_nil l
    cases h1 : mAreSlots l <;> cases h2 : mAreThings ts <;> simp [kAll, h1, h2] at hk <;> simp [h1, h2]
    all_goals rw [hn.1, hn.2]; exact ⟨by first | omega | exact ⟨fun _ => by omega, fun _ => by omega⟩, by omega, fun _ => by omega, fun _ => ⟨rfl, rfl⟩⟩
theorem c29_ok : c29.ok Try.prog := mkCon_ok fun ⟨l, ts⟩ hpre => c29_pc l ts hpre
abbrev mk_TThing : Int → TThing := fun n => ⟨n, n + 1, n + 2, n + 3, n + 4⟩
/-- loop.example/g03007/laws.markThingS -/
noncomputable def c24 : Con := mkCon 24 true (α := (List TThing) × Int) (fun x => (fun (l : List TThing) (k : Int) => ([.own (0, 0) 5 0 l.length, dI k] : List D)) x.1 x.2) (fun x => (fun (l : List TThing) (k : Int) => ([((0, 0), .arr false 5 yTThing (ML encTThing l))] : List (Nm × OO))) x.1 x.2) (fun x => (fun (l : List TThing) (k : Int) => l.length ≤ 1099511627776 ∧ 0 ≤ k ∧ k ≤ 1152921504606846976) x.1 x.2) (fun x => (fun (l : List TThing) (k : Int) => (dI (k + 5 * l.length) : D)) x.1 x.2) (fun x => (fun (l : List TThing) (k : Int) => ([((0, 0), .arr false 5 yTThing (ML encTThing (mkL mk_TThing 5 k l.length)))] : List (Nm × OO))) x.1 x.2)
@[simp] theorem c24_f : c24.f = 24 := rfl
@[simp] theorem c24_own : c24.own = true := rfl
theorem c24_inj : ∀ u_ v_ : (List TThing) × Int, ((fun x => (fun (l : List TThing) (k : Int) => ([.own (0, 0) 5 0 l.length, dI k] : List D)) x.1 x.2) u_).map nz = ((fun x => (fun (l : List TThing) (k : Int) => ([.own (0, 0) 5 0 l.length, dI k] : List D)) x.1 x.2) v_).map nz → (fun x => (fun (l : List TThing) (k : Int) => ([((0, 0), .arr false 5 yTThing (ML encTThing l))] : List (Nm × OO))) x.1 x.2) u_ = (fun x => (fun (l : List TThing) (k : Int) => ([((0, 0), .arr false 5 yTThing (ML encTThing l))] : List (Nm × OO))) x.1 x.2) v_ → u_ = v_ := by
  intro u_ v_ h h2_
  obtain ⟨l, k⟩ := u_
  obtain ⟨l', k'⟩ := v_
  simp [nz_lit, nz1_lit, nz_agg, nz_sl, nz1_sl, nz_sx, nz_el, nz1_el, nz_own, nz1_own, nz_ptr, nz_fn, nz_iface] at h h2_
  first | (simp [h, h2_]; done) | (obtain ⟨h3_, h4_⟩ := List.append_inj h2_ h.1; simp_all; done) | simp_all | grind
@[simp] theorem c24_fn (l : List TThing) (k : Int) : c24.fn ([.own (0, 0) 5 0 l.length, dI k]) ([((0, 0), .arr false 5 yTThing (ML encTThing l))]) = some (l.length ≤ 1099511627776 ∧ 0 ≤ k ∧ k ≤ 1152921504606846976, dI (k + 5 * l.length), [((0, 0), .arr false 5 yTThing (ML encTThing (mkL mk_TThing 5 k l.length)))]) :=
  mkCon_fn c24_inj ((l, k) : (List TThing) × Int) rfl rfl
theorem c24_pc (l : List TThing) (k : Int) (hpre : l.length ≤ 1099511627776 ∧ 0 ≤ k ∧ k ≤ 1152921504606846976) : PCo Try.prog 24 ([.own (0, 0) 5 0 l.length, dI k]) (Tab.of ([((0, 0), .arr false 5 yTThing (ML encTThing l))])) (dI (k + 5 * l.length)) (Tab.of ([((0, 0), .arr false 5 yTThing (ML encTThing (mkL mk_TThing 5 k l.length)))])) := by
  refine pco_of_run [] (E := ⟨[], [], []⟩) (m := false) (base := 0) Env.ok_nil G_ok mix 300 6 Try.func24 (by kernel_rfl) rfl (by kernel_rfl) (by kernel_rfl) rfl ?_
  simp [Try.f24]
  obtain ⟨pre1, pre2, pre3⟩ := hpre
  refine loop_inv (fun p : Nat => p ≤ l.length) (fun p => [(0, .own (0, 0) 5 0 l.length), (1, dI (k + 5 * p)), (5, dI p)]) (fun p => [((0, 0), .arr false 5 yTThing (ML encTThing (mkL mk_TThing 5 k p ++ l.drop p)))]) 2 (fun p => l.length - p) 0 100 (by simp) (by simp) (by simp) ?_
  intro p hp
  simp
  have hs : ∀ x, x = mk_TThing (k + 5 * (p : Int)) → p < l.length → mkL mk_TThing 5 k p ++ (l.drop p).set 0 x = mkL mk_TThing 5 k (p + 1) ++ l.drop (p + 1) := fun x hx hlt => mark_step0 hlt hx
  refine ⟨fun hlt => ?_, fun hge => ?_⟩
  · repeat' (first | omega | refine And.intro ?_ ?_ | intro _)
    all_goals refine Again.mk (p + 1) (by omega) ?_ (by first | omega | (simp; omega))
    all_goals (rw [hs _ (by simp [mark_get0 hlt, mark_get hlt]; first | done | omega) hlt]; simp; omega)
  have : p = l.length := by omega
  subst this
  simp
  trace_state
theorem c24_ok : c24.ok Try.prog := mkCon_ok fun ⟨l, k⟩ hpre => c24_pc l k hpre
/-- loop.example/g03007/laws.FnExactPutAll -/
theorem law5 (l : List TSlot) (wl : wfLTSlot l) (ts : List TThing) (wts : wfLTThing ts) : PCo Try.prog 5 [encLTSlot l, encLTThing ts] (Tab.of []) (dB true) (Tab.of []) := by
  refine pco_of_run [] (E := ⟨[c8, c10, c12, c16, c17, c18, c19, c20, c21, c22, c23, c24, c25, c26], [], []⟩) (m := false) (base := 0) (Env.ok_cons c8_ok (Env.ok_cons c10_ok (Env.ok_cons c12_ok (Env.ok_cons c16_ok (Env.ok_cons c17_ok (Env.ok_cons c18_ok (Env.ok_cons c19_ok (Env.ok_cons c20_ok (Env.ok_cons c21_ok (Env.ok_cons c22_ok (Env.ok_cons c23_ok (Env.ok_cons c24_ok (Env.ok_cons c25_ok (Env.ok_cons c26_ok Env.ok_nil)))))))))))))) G_ok mix 400 6 Try.func5 (by kernel_rfl) rfl (by kernel_rfl) (by kernel_rfl) rfl ?_
  simp (config := {maxSteps := 3000000}) [Try.f5]
  have h1 : l.length ≤ maxLen := wl.1
  have h2 : ts.length ≤ maxLen := wts.1
  have e1 := mAll_len l ts
  have e2 := mLeft_len l ts
  have e3 := mTight_len l ts
  refine ⟨h1, fun h => ?_⟩
  split at h
  · omega
  · rename_i h3
    rw [if_neg h3]
    refine ⟨⟨h2, by omega⟩, fun h => ?_⟩
    split at h
    · omega
    · repeat' (first | omega | refine And.intro ?_ ?_ | intro _)
theorem law5_pc (D0 : D) (h0 : Sh G 9 22 D0) (D1 : D) (h1 : Sh G 9 36 D1) : PC Try.prog 5 [D0, D1] (dB true) [] := by
  obtain ⟨l, rfl, wl⟩ := sh22 (n := 6) h0
  obtain ⟨ts, rfl, wts⟩ := sh36 (n := 6) h1
  exact law5 l wl ts wts
/-- loop.example/g03007/laws.FnExactCanHold -/
theorem law6 (l : List TSlot) (wl : wfLTSlot l) (ts : List TThing) (wts : wfLTThing ts) : PCo Try.prog 6 [encLTSlot l, encLTThing ts] (Tab.of []) (dB true) (Tab.of []) := by
  refine pco_of_run [] (E := ⟨[c8, c10, c12, c18, c20, c23, c27, c28], [], []⟩) (m := false) (base := 0) (Env.ok_cons c8_ok (Env.ok_cons c10_ok (Env.ok_cons c12_ok (Env.ok_cons c18_ok (Env.ok_cons c20_ok (Env.ok_cons c23_ok (Env.ok_cons c27_ok (Env.ok_cons c28_ok Env.ok_nil)))))))) G_ok mix 400 6 Try.func6 (by kernel_rfl) rfl (by kernel_rfl) (by kernel_rfl) rfl ?_
  simp (config := {maxSteps := 3000000}) [Try.f6]
  have h1 : l.length ≤ maxLen := wl.1
  have h2 : ts.length ≤ maxLen := wts.1
  have e1 := mAll_len l ts
  have e2 := mLeft_len l ts
  have e3 := mTight_len l ts
  refine ⟨h1, fun h => ?_⟩
  split at h
  · omega
  · rename_i h3
    rw [if_neg h3]
    refine ⟨⟨h2, by omega⟩, fun h => ?_⟩
    split at h
    · omega
    · repeat' (first | omega | refine And.intro ?_ ?_ | intro _)
theorem law6_pc (D0 : D) (h0 : Sh G 9 22 D0) (D1 : D) (h1 : Sh G 9 36 D1) : PC Try.prog 6 [D0, D1] (dB true) [] := by
  obtain ⟨l, rfl, wl⟩ := sh22 (n := 6) h0
  obtain ⟨ts, rfl, wts⟩ := sh36 (n := 6) h1
  exact law6 l wl ts wts
/-- loop.example/g03007/laws.FnExactTighten -/
theorem law7 (l : List TSlot) (wl : wfLTSlot l) (ts : List TThing) (wts : wfLTThing ts) : PCo Try.prog 7 [encLTSlot l, encLTThing ts] (Tab.of []) (dB true) (Tab.of []) := by
  refine pco_of_run [] (E := ⟨[c8, c10, c12, c16, c17, c18, c20, c23, c24, c29, c30], [], []⟩) (m := false) (base := 0) (Env.ok_cons c8_ok (Env.ok_cons c10_ok (Env.ok_cons c12_ok (Env.ok_cons c16_ok (Env.ok_cons c17_ok (Env.ok_cons c18_ok (Env.ok_cons c20_ok (Env.ok_cons c23_ok (Env.ok_cons c24_ok (Env.ok_cons c29_ok (Env.ok_cons c30_ok Env.ok_nil))))))))))) G_ok mix 400 6 Try.func7 (by kernel_rfl) rfl (by kernel_rfl) (by kernel_rfl) rfl ?_
  simp (config := {maxSteps := 3000000}) [Try.f7]
  have h1 : l.length ≤ maxLen := wl.1
  have h2 : ts.length ≤ maxLen := wts.1
  have e1 := mAll_len l ts
  have e2 := mLeft_len l ts
  have e3 := mTight_len l ts
  refine ⟨h1, fun h => ?_⟩
  split at h
  · omega
  · rename_i h3
    rw [if_neg h3]
    refine ⟨⟨h2, by omega⟩, fun h => ?_⟩
    split at h
    · omega
    · repeat' (first | omega | refine And.intro ?_ ?_ | intro _)
theorem law7_pc (D0 : D) (h0 : Sh G 9 22 D0) (D1 : D) (h1 : Sh G 9 36 D1) : PC Try.prog 7 [D0, D1] (dB true) [] := by
  obtain ⟨l, rfl, wl⟩ := sh22 (n := 6) h0
  obtain ⟨ts, rfl, wts⟩ := sh36 (n := 6) h1
  exact law7 l wl ts wts

end Go.Proofs.Ytdemoobiiijmoaa
