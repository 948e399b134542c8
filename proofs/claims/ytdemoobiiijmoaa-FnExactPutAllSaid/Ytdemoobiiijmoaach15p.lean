/- Contracts of the functions that the laws run. -/
import Derived.Test.Ytdemoobiiijmoaach15s
import Derived.Test.Ytdemoobiiijmoaaputi
import Derived.Test.Ytdemoobiiijmoaasorti
import Derived.Test.YtdemoobiiijmoaaEngB
namespace Go.Proofs.Ytdemoobiiijmoaa
open Go Go.Eng
set_option linter.unusedSimpArgs false
set_option linter.unusedVariables false
set_option maxRecDepth 10000
set_option maxHeartbeats 1000000
theorem insK_perm (x : TThing) (P : List TThing) : (insK ltT default x P).Perm (x :: P) := by
  rw [insK]
  refine List.perm_middle.trans ?_
  rw [List.take_append_drop]
theorem sortT_perm (l : List TThing) : ∀ p, p ≤ l.length → (sortT l p).Perm (l.take p)
  | 0, _ => by simp [sortT, sortK]
  | p + 1, h => by
    have e : sortT l (p + 1) = insK ltT default (l[p]?.getD default) (sortT l p) := rfl
    rw [e, take_at (d := default) (show p < l.length by omega)]
    refine (insK_perm _ _).trans ?_
    refine ((sortT_perm l p (by omega)).cons _).trans ?_
    exact (List.perm_append_singleton _ _).symm
theorem asc_ext {a b : List Int} (ha : a.Pairwise (· < ·)) (hb : b.Pairwise (· < ·)) (h : ∀ w, w ∈ a ↔ w ∈ b) : a = b := by
  have hp : a.Perm b := (List.perm_ext_iff_of_nodup (ha.imp fun h => by omega) (hb.imp fun h => by omega)).2 h
  exact hp.eq_of_pairwise (fun a b _ _ h1 h2 => by omega) ha hb
theorem asc_lt {a : List Int} (h : a.Pairwise (· ≤ ·)) (hn : a.Nodup) : a.Pairwise (· < ·) :=
  (h.and hn).imp fun ⟨h1, h2⟩ => by omega
def stepP (q : List TSlot × List Int) (x : TThing) : List TSlot × List Int := (mPut q.1 x, if kPut q.1 x then q.2 else q.2 ++ [x.Id])
def stepQ (q : List TSlot × List Int) (x : TThing) : List TSlot × List Int := (mPut q.1 x, if kPut q.1 x then q.2 else putI q.2 x.Id)
def runP (l : List TSlot) (xs : List TThing) : List TSlot × List Int := xs.foldl stepP (l, [])
def runQ (l : List TSlot) (xs : List TThing) : List TSlot × List Int := xs.foldl stepQ (l, [])
theorem runP_at {l : List TSlot} {xs : List TThing} {p : Nat} (h : p < xs.length) : runP l (xs.take (p + 1)) = stepP (runP l (xs.take p)) (xs[p]?.getD default) := by
  rw [runP, take_at (d := default) h, List.foldl_append]; rfl
theorem runQ_at {l : List TSlot} {xs : List TThing} {p : Nat} (h : p < xs.length) : runQ l (xs.take (p + 1)) = stepQ (runQ l (xs.take p)) (xs[p]?.getD default) := by
  rw [runQ, take_at (d := default) h, List.foldl_append]; rfl
theorem run_same (l : List TSlot) (xs : List TThing) : ∀ p, p ≤ xs.length → runQ l (xs.take p) = ((runP l (xs.take p)).1, ((runP l (xs.take p)).2).foldl putI []) ∧ (runP l (xs.take p)).1.length = l.length ∧ ((runP l (xs.take p)).2).Sublist ((xs.take p).map (·.Id))
  | 0, _ => by simp [runP, runQ]
  | p + 1, h => by
    have hp : p < xs.length := by omega
    obtain ⟨h1, h2, h3⟩ := run_same l xs p (by omega)
    rw [runQ_at hp, runP_at hp, h1, take_at (d := default) hp]
    simp only [stepQ, stepP, mPut_len, h2, List.map_append]
    refine ⟨?_, trivial, ?_⟩
    · split
      · rfl
      · simp [List.foldl_append]
    · split
      · exact h3.trans (List.sublist_append_left _ _)
      · exact List.Sublist.append h3 (List.Sublist.refl _)
theorem asc_ids : ∀ (l : List TThing) (q : Int), mAsc q l = true → (l.map (·.Id)).Pairwise (· < ·) ∧ ∀ y ∈ l.map (·.Id), q < y
  | [], _, _ => by simp
  | x :: l, q, h => by
    simp only [mAsc, Bool.and_eq_true, decide_eq_true_eq] at h
    have ih := asc_ids l x.Id h.2
    refine ⟨List.pairwise_cons.2 ⟨ih.2, ih.1⟩, fun y hy => ?_⟩
    rw [List.map_cons, List.mem_cons] at hy
    rcases hy with rfl | hy
    · exact h.1.2
    · have := ih.2 y hy; omega
theorem ids_nodup {ts : List TThing} (h : mAreThings ts = true) : ((sortT ts ts.length).map (·.Id)).Nodup := by
  have h1 : mAsc 0 ts = true := by simp only [mAreThings, Bool.and_eq_true] at h; exact h.2
  have h2 := (asc_ids ts 0 h1).1
  have hp := sortT_perm ts ts.length (Nat.le_refl _)
  rw [List.take_length] at hp
  have h3 : (ts.map (·.Id)).Nodup := List.Pairwise.imp (fun h => Int.ne_of_lt h) h2
  exact (hp.map (·.Id)).nodup_iff.2 h3
theorem put_sort {L : List Int} (h : L.Nodup) : L.foldl putI [] = mSort L := by
  have h1 := foldP L [] List.Pairwise.nil
  refine asc_ext h1.1 (asc_lt (mSort_asc _) ((mSort_perm _).nodup_iff.2 h)) fun w => ?_
  rw [h1.2.1 w, (mSort_perm _).mem_iff]; simp
def kAll (l : List TSlot) (ts : List TThing) : Bool := mAreSlots l && mAreThings ts
def mAll (l : List TSlot) (ts : List TThing) : List TSlot := if kAll l ts then (runP l (sortT ts ts.length)).1 else l
def mLeft (l : List TSlot) (ts : List TThing) : List Int := if kAll l ts then mSort (runP l (sortT ts ts.length)).2 else []
theorem run_full (l : List TSlot) (xs : List TThing) : (runP l xs).1.length = l.length ∧ (runP l xs).2.length ≤ xs.length ∧ ((runP l xs).2).Sublist (xs.map (·.Id)) ∧ runQ l xs = ((runP l xs).1, ((runP l xs).2).foldl putI []) := by
  have h := run_same l xs xs.length (Nat.le_refl _)
  rw [List.take_length] at h
  refine ⟨h.2.1, ?_, h.2.2, h.1⟩
  have := h.2.2.length_le
  simpa using this
theorem mAll_len (l : List TSlot) (ts : List TThing) : (mAll l ts).length = l.length := by
  rw [mAll]; split
  · exact (run_full l _).1
  · rfl
theorem things_20 {ts : List TThing} (h : mAreThings ts = true) : ts.length ≤ 20 := by
  simp only [mAreThings, Bool.and_eq_true, decide_eq_true_eq] at h; exact h.1
theorem mLeft_len (l : List TSlot) (ts : List TThing) : (mLeft l ts).length ≤ 20 := by
  rw [mLeft]; split
  · rename_i h
    simp only [kAll, Bool.and_eq_true] at h
    have := (run_full l (sortT ts ts.length)).2.1
    have h2 := things_20 h.2
    rw [sortK_len] at this
    rw [mSort_len]; omega
  · simp
/-- loop.example/g03007/impl.PutAll -/
noncomputable def c21 : Con := mkCon 21 false (α := (List TSlot) × (List TThing)) (fun x => (fun (l : List TSlot) (ts : List TThing) => [encLTSlot l, encLTThing ts]) x.1 x.2) (fun _ => []) (fun x => (fun (l : List TSlot) (ts : List TThing) => l.length ≤ 1048576 ∧ ts.length ≤ 1048576) x.1 x.2) (fun x => (fun (l : List TSlot) (ts : List TThing) => (.tup [.own (0, 1) 3 0 (mAll l ts).length, .own (1, 1) 1 0 (mLeft l ts).length] : D)) x.1 x.2) (fun x => (fun (l : List TSlot) (ts : List TThing) => [((0, 1), .arr false 3 yTSlot (ML encTSlot (mAll l ts))), ((1, 1), .arr false 1 (dI 0) (ML dI (mLeft l ts)))]) x.1 x.2)
@[simp] theorem c21_f : c21.f = 21 := rfl
@[simp] theorem c21_own : c21.own = false := rfl
theorem c21_inj : ∀ u_ v_ : (List TSlot) × (List TThing), ((fun x => (fun (l : List TSlot) (ts : List TThing) => [encLTSlot l, encLTThing ts]) x.1 x.2) u_).map nz = ((fun x => (fun (l : List TSlot) (ts : List TThing) => [encLTSlot l, encLTThing ts]) x.1 x.2) v_).map nz → u_ = v_ := by
  intro u_ v_ h
  obtain ⟨l, ts⟩ := u_
  obtain ⟨l', ts'⟩ := v_
  simp [nz_lit, nz1_lit, nz_agg, nz_sl, nz1_sl, encLTSlot, encLTThing] at h
  first | (simp [h]; done) | (obtain ⟨⟩ := h; simp_all; done) | simp_all
@[simp] theorem c21_fn (l : List TSlot) (ts : List TThing) : c21.fn [.sl false 3 yTSlot (ML encTSlot l), .sl false 5 yTThing (ML encTThing ts)] [] = some ((fun (l : List TSlot) (ts : List TThing) => l.length ≤ 1048576 ∧ ts.length ≤ 1048576) l ts, (fun (l : List TSlot) (ts : List TThing) => (.tup [.own (0, 1) 3 0 (mAll l ts).length, .own (1, 1) 1 0 (mLeft l ts).length] : D)) l ts, (fun (l : List TSlot) (ts : List TThing) => [((0, 1), .arr false 3 yTSlot (ML encTSlot (mAll l ts))), ((1, 1), .arr false 1 (dI 0) (ML dI (mLeft l ts)))]) l ts) :=
  mkCon_fn (fun x y h _ => c21_inj x y h) ((l, ts) : (List TSlot) × (List TThing)) (by simp [nz, nz1, ML_nil, encLTSlot, encLTThing]) rfl
@[simp] theorem c21_fn1 (s_l : Nat) (z_l : D) (ts : List TThing) : c21.fn [.sl false s_l z_l [], .sl false 5 yTThing (ML encTThing ts)] [] = some ((fun (l : List TSlot) (ts : List TThing) => l.length ≤ 1048576 ∧ ts.length ≤ 1048576) [] ts, (fun (l : List TSlot) (ts : List TThing) => (.tup [.own (0, 1) 3 0 (mAll l ts).length, .own (1, 1) 1 0 (mLeft l ts).length] : D)) [] ts, (fun (l : List TSlot) (ts : List TThing) => [((0, 1), .arr false 3 yTSlot (ML encTSlot (mAll l ts))), ((1, 1), .arr false 1 (dI 0) (ML dI (mLeft l ts)))]) [] ts) :=
  mkCon_fn (fun x y h _ => c21_inj x y h) (([], ts) : (List TSlot) × (List TThing)) (by simp [nz, nz1, ML_nil, encLTSlot, encLTThing]) rfl
@[simp] theorem c21_fn2 (l : List TSlot) (s_ts : Nat) (z_ts : D) : c21.fn [.sl false 3 yTSlot (ML encTSlot l), .sl false s_ts z_ts []] [] = some ((fun (l : List TSlot) (ts : List TThing) => l.length ≤ 1048576 ∧ ts.length ≤ 1048576) l [], (fun (l : List TSlot) (ts : List TThing) => (.tup [.own (0, 1) 3 0 (mAll l ts).length, .own (1, 1) 1 0 (mLeft l ts).length] : D)) l [], (fun (l : List TSlot) (ts : List TThing) => [((0, 1), .arr false 3 yTSlot (ML encTSlot (mAll l ts))), ((1, 1), .arr false 1 (dI 0) (ML dI (mLeft l ts)))]) l []) :=
  mkCon_fn (fun x y h _ => c21_inj x y h) ((l, []) : (List TSlot) × (List TThing)) (by simp [nz, nz1, ML_nil, encLTSlot, encLTThing]) rfl
@[simp] theorem c21_fn3 (s_l : Nat) (z_l : D) (s_ts : Nat) (z_ts : D) : c21.fn [.sl false s_l z_l [], .sl false s_ts z_ts []] [] = some ((fun (l : List TSlot) (ts : List TThing) => l.length ≤ 1048576 ∧ ts.length ≤ 1048576) [] [], (fun (l : List TSlot) (ts : List TThing) => (.tup [.own (0, 1) 3 0 (mAll l ts).length, .own (1, 1) 1 0 (mLeft l ts).length] : D)) [] [], (fun (l : List TSlot) (ts : List TThing) => [((0, 1), .arr false 3 yTSlot (ML encTSlot (mAll l ts))), ((1, 1), .arr false 1 (dI 0) (ML dI (mLeft l ts)))]) [] []) :=
  mkCon_fn (fun x y h _ => c21_inj x y h) (([], []) : (List TSlot) × (List TThing)) (by simp [nz, nz1, ML_nil, encLTSlot, encLTThing]) rfl
theorem c21_pc (l : List TSlot) (ts : List TThing) (hpre : l.length ≤ 1048576 ∧ ts.length ≤ 1048576) : PCo Try.prog 21 [encLTSlot l, encLTThing ts] (Tab.of []) (.tup [.own (0, 1) 3 0 (mAll l ts).length, .own (1, 1) 1 0 (mLeft l ts).length]) (Tab.of [((0, 1), .arr false 3 yTSlot (ML encTSlot (mAll l ts))), ((1, 1), .arr false 1 (dI 0) (ML dI (mLeft l ts)))]) := by
  refine pco_of_run [] (E := ⟨[c15, c37, c38, c44, c45, c46], [], []⟩) (m := false) (base := 0) (Env.ok_cons c15_ok (Env.ok_cons c37_ok (Env.ok_cons c38_ok (Env.ok_cons c44_ok (Env.ok_cons c45_ok (Env.ok_cons c46_ok Env.ok_nil)))))) G_ok mix 300 6 Try.func21 (by kernel_rfl) rfl (by kernel_rfl) (by kernel_rfl) rfl ?_
  obtain ⟨pre1, pre2⟩ := hpre
  by_cases hk : kAll l ts = true
  · have hk2 := hk
    simp only [kAll, Bool.and_eq_true] at hk2
    have h20 := things_20 hk2.2
    have hsl : (sortT ts ts.length).length = ts.length := sortK_len ts _
    have e1 : mAll l ts = (runP l (sortT ts ts.length)).1 := by rw [mAll, if_pos hk]
    have e2 : mLeft l ts = mSort (runP l (sortT ts ts.length)).2 := by rw [mLeft, if_pos hk]
    rw [e1, e2, mSort_len]
    simp [Try.f21, hk2.1, hk2.2]
    generalize sortT ts ts.length = xs at *
    refine ⟨by omega, by omega, h20, ?_⟩
    refine loop_inv (fun p : Nat => p ≤ xs.length) (fun p => [(6, .own (0, 1) 3 0 (runP l (xs.take p)).1.length), (7, .own (1, 1) 1 0 (runP l (xs.take p)).2.length), (26, encLTThing xs), (27, dI xs.length), (28, dI p)]) (fun p => [((0, 1), .arr false 3 yTSlot (ML encTSlot (runP l (xs.take p)).1)), ((1, 1), .arr false 1 (dI 0) (ML dI (runP l (xs.take p)).2))]) 2 (fun p => xs.length - p) 0 400 (by simp) (by simp) (by simp [runP]) ?_
    intro p hp
    have hs := run_same l xs p hp
    have hsl2 := hs.2.2.length_le
    simp only [List.length_map, List.length_take] at hsl2
    simp
    refine ⟨fun hlt => ?_, fun hge => ?_⟩
    · have hr := runP_at (l := l) hlt
      refine ⟨hlt, by omega, fun hkp => ⟨by omega, by omega, Again.mk (p + 1) (by omega) (by simp [hr, stepP, hkp]) (by first | omega | (simp; omega))⟩, fun hkp => ⟨by omega, Again.mk (p + 1) (by omega) (by simp [hr, stepP, hkp]) (by first | omega | (simp; omega))⟩⟩
    · have : p = xs.length := by omega
      subst this
      rw [List.take_length] at *
      exact ⟨by omega, ⟨rfl, rfl⟩, rfl, rfl⟩
  · simp only [Bool.not_eq_true] at hk
    have e1 : mAll l ts = l := by simp [mAll, hk]
    have e2 : mLeft l ts = [] := by simp [mLeft, hk]
    rw [e1, e2]
    cases h1 : mAreSlots l <;> cases h2 : mAreThings ts <;> simp [kAll, h1, h2] at hk <;> simp [Try.f21, h1, h2] <;> omega
theorem c21_ok : c21.ok Try.prog := mkCon_ok fun ⟨l, ts⟩ hpre => c21_pc l ts hpre
/-- loop.example/g03007/spec.PutAll -/
noncomputable def c19 : Con := mkCon 19 false (α := (List TSlot) × (List TThing)) (fun x => (fun (l : List TSlot) (ts : List TThing) => [encLTSlot l, encLTThing ts]) x.1 x.2) (fun _ => []) (fun x => (fun (l : List TSlot) (ts : List TThing) => l.length ≤ 1048576 ∧ ts.length ≤ 1048576) x.1 x.2) (fun x => (fun (l : List TSlot) (ts : List TThing) => (.tup [.own (0, 1) 3 0 (mAll l ts).length, .own (1, 1) 1 0 (mLeft l ts).length] : D)) x.1 x.2) (fun x => (fun (l : List TSlot) (ts : List TThing) => [((0, 1), .arr false 3 yTSlot (ML encTSlot (mAll l ts))), ((1, 1), .arr false 1 (dI 0) (ML dI (mLeft l ts)))]) x.1 x.2)
@[simp] theorem c19_f : c19.f = 19 := rfl
@[simp] theorem c19_own : c19.own = false := rfl
theorem c19_inj : ∀ u_ v_ : (List TSlot) × (List TThing), ((fun x => (fun (l : List TSlot) (ts : List TThing) => [encLTSlot l, encLTThing ts]) x.1 x.2) u_).map nz = ((fun x => (fun (l : List TSlot) (ts : List TThing) => [encLTSlot l, encLTThing ts]) x.1 x.2) v_).map nz → u_ = v_ := by
  intro u_ v_ h
  obtain ⟨l, ts⟩ := u_
  obtain ⟨l', ts'⟩ := v_
  simp [nz_lit, nz1_lit, nz_agg, nz_sl, nz1_sl, encLTSlot, encLTThing] at h
  first | (simp [h]; done) | (obtain ⟨⟩ := h; simp_all; done) | simp_all
@[simp] theorem c19_fn (l : List TSlot) (ts : List TThing) : c19.fn [.sl false 3 yTSlot (ML encTSlot l), .sl false 5 yTThing (ML encTThing ts)] [] = some ((fun (l : List TSlot) (ts : List TThing) => l.length ≤ 1048576 ∧ ts.length ≤ 1048576) l ts, (fun (l : List TSlot) (ts : List TThing) => (.tup [.own (0, 1) 3 0 (mAll l ts).length, .own (1, 1) 1 0 (mLeft l ts).length] : D)) l ts, (fun (l : List TSlot) (ts : List TThing) => [((0, 1), .arr false 3 yTSlot (ML encTSlot (mAll l ts))), ((1, 1), .arr false 1 (dI 0) (ML dI (mLeft l ts)))]) l ts) :=
  mkCon_fn (fun x y h _ => c19_inj x y h) ((l, ts) : (List TSlot) × (List TThing)) (by simp [nz, nz1, ML_nil, encLTSlot, encLTThing]) rfl
@[simp] theorem c19_fn1 (s_l : Nat) (z_l : D) (ts : List TThing) : c19.fn [.sl false s_l z_l [], .sl false 5 yTThing (ML encTThing ts)] [] = some ((fun (l : List TSlot) (ts : List TThing) => l.length ≤ 1048576 ∧ ts.length ≤ 1048576) [] ts, (fun (l : List TSlot) (ts : List TThing) => (.tup [.own (0, 1) 3 0 (mAll l ts).length, .own (1, 1) 1 0 (mLeft l ts).length] : D)) [] ts, (fun (l : List TSlot) (ts : List TThing) => [((0, 1), .arr false 3 yTSlot (ML encTSlot (mAll l ts))), ((1, 1), .arr false 1 (dI 0) (ML dI (mLeft l ts)))]) [] ts) :=
  mkCon_fn (fun x y h _ => c19_inj x y h) (([], ts) : (List TSlot) × (List TThing)) (by simp [nz, nz1, ML_nil, encLTSlot, encLTThing]) rfl
@[simp] theorem c19_fn2 (l : List TSlot) (s_ts : Nat) (z_ts : D) : c19.fn [.sl false 3 yTSlot (ML encTSlot l), .sl false s_ts z_ts []] [] = some ((fun (l : List TSlot) (ts : List TThing) => l.length ≤ 1048576 ∧ ts.length ≤ 1048576) l [], (fun (l : List TSlot) (ts : List TThing) => (.tup [.own (0, 1) 3 0 (mAll l ts).length, .own (1, 1) 1 0 (mLeft l ts).length] : D)) l [], (fun (l : List TSlot) (ts : List TThing) => [((0, 1), .arr false 3 yTSlot (ML encTSlot (mAll l ts))), ((1, 1), .arr false 1 (dI 0) (ML dI (mLeft l ts)))]) l []) :=
  mkCon_fn (fun x y h _ => c19_inj x y h) ((l, []) : (List TSlot) × (List TThing)) (by simp [nz, nz1, ML_nil, encLTSlot, encLTThing]) rfl
@[simp] theorem c19_fn3 (s_l : Nat) (z_l : D) (s_ts : Nat) (z_ts : D) : c19.fn [.sl false s_l z_l [], .sl false s_ts z_ts []] [] = some ((fun (l : List TSlot) (ts : List TThing) => l.length ≤ 1048576 ∧ ts.length ≤ 1048576) [] [], (fun (l : List TSlot) (ts : List TThing) => (.tup [.own (0, 1) 3 0 (mAll l ts).length, .own (1, 1) 1 0 (mLeft l ts).length] : D)) [] [], (fun (l : List TSlot) (ts : List TThing) => [((0, 1), .arr false 3 yTSlot (ML encTSlot (mAll l ts))), ((1, 1), .arr false 1 (dI 0) (ML dI (mLeft l ts)))]) [] []) :=
  mkCon_fn (fun x y h _ => c19_inj x y h) (([], []) : (List TSlot) × (List TThing)) (by simp [nz, nz1, ML_nil, encLTSlot, encLTThing]) rfl
theorem c19_pc (l : List TSlot) (ts : List TThing) (hpre : l.length ≤ 1048576 ∧ ts.length ≤ 1048576) : PCo Try.prog 19 [encLTSlot l, encLTThing ts] (Tab.of []) (.tup [.own (0, 1) 3 0 (mAll l ts).length, .own (1, 1) 1 0 (mLeft l ts).length]) (Tab.of [((0, 1), .arr false 3 yTSlot (ML encTSlot (mAll l ts))), ((1, 1), .arr false 1 (dI 0) (ML dI (mLeft l ts)))]) := by
  refine pco_of_run [] (E := ⟨[c13, c34, c41, c42, c43], [], []⟩) (m := false) (base := 0) (Env.ok_cons c13_ok (Env.ok_cons c34_ok (Env.ok_cons c41_ok (Env.ok_cons c42_ok (Env.ok_cons c43_ok Env.ok_nil))))) G_ok mix 300 6 Try.func19 (by kernel_rfl) rfl (by kernel_rfl) (by kernel_rfl) rfl ?_
  obtain ⟨pre1, pre2⟩ := hpre
  have hsl : (sortT ts ts.length).length = ts.length := sortK_len ts _
  by_cases hk : kAll l ts = true
  · have hk2 := hk
    simp only [kAll, Bool.and_eq_true] at hk2
    have h20 := things_20 hk2.2
    have e1 : mAll l ts = (runQ l (sortT ts ts.length)).1 := by rw [mAll, if_pos hk, (run_full l _).2.2.2]
    have e2 : mLeft l ts = (runQ l (sortT ts ts.length)).2 := by
      rw [mLeft, if_pos hk, (run_full l _).2.2.2]
      exact (put_sort ((run_full l (sortT ts ts.length)).2.2.1.nodup (ids_nodup hk2.2))).symm
    rw [e1, e2]
    simp [Try.f19]
    generalize sortT ts ts.length = xs at *
    refine ⟨by omega, by omega, ?_⟩
    refine loop_inv (fun p : Nat => p ≤ xs.length) (fun p => [(0, encLTSlot l), (1, encLTThing ts), (6, .own (0, 1) 3 0 (runQ l (xs.take p)).1.length), (7, .own (1, 1) 1 0 (runQ l (xs.take p)).2.length), (8, encLTThing xs), (9, dI p)]) (fun p => [((0, 1), .arr false 3 yTSlot (ML encTSlot (runQ l (xs.take p)).1)), ((1, 1), .arr false 1 (dI 0) (ML dI (runQ l (xs.take p)).2))]) 2 (fun p => xs.length - p) 0 400 (by simp) (by simp) (by simp [runQ]) ?_
    intro p hp
    have hs := run_same l xs p hp
    have hq : (runQ l (xs.take p)).1.length = l.length := by rw [hs.1]; exact hs.2.1
    have hq2 : (runQ l (xs.take p)).2.length ≤ 20 := by
      rw [hs.1]
      have h1 := (foldP (runP l (xs.take p)).2 [] List.Pairwise.nil).2.2
      have h2 := hs.2.2.length_le
      simp only [List.length_map, List.length_take, List.length_nil] at h1 h2
      simp only
      omega
    simp [hk2.1, hk2.2]
    refine ⟨⟨fun _ => by omega, fun _ => by omega⟩, fun hlt => ?_, fun hge => ?_⟩
    · have hr := runQ_at (l := l) hlt
      refine ⟨⟨hlt, by omega⟩, fun hkp => ⟨⟨hlt, by omega⟩, by omega, Again.mk (p + 1) (by omega) (by simp [hr, stepQ, hkp]) (by first | omega | (simp; omega))⟩, fun hkp => ⟨by omega, Again.mk (p + 1) (by omega) (by simp [hr, stepQ, hkp]) (by first | omega | (simp; omega))⟩⟩
    · have : p = xs.length := by omega
      subst this
      rw [List.take_length] at *
      exact ⟨⟨rfl, rfl⟩, rfl, rfl⟩
  · simp only [Bool.not_eq_true] at hk
    have e1 : mAll l ts = l := by simp [mAll, hk]
    have e2 : mLeft l ts = [] := by simp [mLeft, hk]
    rw [e1, e2]
    cases h1 : mAreSlots l <;> cases h2 : mAreThings ts <;> simp [kAll, h1, h2] at hk <;> simp [Try.f19]
    all_goals generalize sortT ts ts.length = xs at *
    all_goals refine ⟨by omega, by omega, ?_⟩
    all_goals refine loop_inv (fun _ : Unit => True) (fun _ => [(0, encLTSlot l), (1, encLTThing ts), (6, .own (0, 1) 3 0 l.length), (7, .own (1, 1) 1 0 0), (8, encLTThing xs), (9, dI 0)]) (fun _ => [((0, 1), .arr false 3 yTSlot (ML encTSlot l)), ((1, 1), .arr false 1 (dI 0) [])]) 2 (fun _ => 0) () 400 (by simp) (by simp) (by simp) ?_
    all_goals intro u _
    all_goals simp [h1, h2]
    all_goals first | done | omega | trace_state
theorem c19_ok : c19.ok Try.prog := mkCon_ok fun ⟨l, ts⟩ hpre => c19_pc l ts hpre
theorem put_keep {l : List TSlot} {x : TThing} {s : TSlot} (hs : s ∈ l) (h0 : ¬ s.Thing = 0) : s ∈ mPut l x := by
  by_cases hk : kPut l x = true
  · have hk' := hk
    simp only [kPut, Bool.and_eq_true, decide_eq_true_eq] at hk'
    obtain ⟨⟨⟨h1, h2⟩, h3⟩, h4⟩ := hk'
    have hbl := best_lt l x.Size
    obtain ⟨k, hkb⟩ : ∃ k : Nat, best l x.Size = k := ⟨(best l x.Size).toNat, by omega⟩
    have hkl : k < l.length := by omega
    have hm : l.map (putId (mSmall l x.Size) x.Id) = l.set k (putT x.Id (l[k]?.getD default)) := by
      rw [mSmall, if_neg (by omega), hkb]
      exact putId_set (slot_valid h1) (by omega)
    have hf : (l[k]?.getD default).Thing = 0 := by
      rcases best_is l x.Size with ⟨e, -⟩ | ⟨j, hj, e, hf, -⟩
      · omega
      · have : j = k := by omega
        subst this
        simpa [isFree] using hf
    rw [mPut_yes hk, hm]
    obtain ⟨j, hj, rfl⟩ := List.mem_iff_getElem.1 hs
    have hjk : j ≠ k := by
      rintro rfl
      rw [List.getElem?_eq_getElem hj] at hf
      exact h0 hf
    refine List.mem_iff_getElem.2 ⟨j, by simpa using hj, ?_⟩
    rw [List.getElem_set_ne (Ne.symm hjk)]
  · simp only [Bool.not_eq_true] at hk
    rw [mPut_no hk]; exact hs
theorem run_keep {l : List TSlot} {s : TSlot} (hs : s ∈ l) (h0 : ¬ s.Thing = 0) : ∀ (xs : List TThing) (L : List Int), s ∈ (xs.foldl stepP (l, L)).1 ∧ L.length ≤ (xs.foldl stepP (l, L)).2.length ∧ (∀ x ∈ xs, s.Thing = x.Id → L.length < (xs.foldl stepP (l, L)).2.length)
  | [], L => ⟨hs, Nat.le_refl _, by simp⟩
  | y :: xs, L => by
    have hk : s ∈ mPut l y := put_keep hs h0
    have ih := run_keep hk h0 xs (if kPut l y then L else L ++ [y.Id])
    rw [List.foldl_cons]
    refine ⟨ih.1, ?_, fun x hx hxs => ?_⟩
    · refine Nat.le_trans ?_ ih.2.1
      split <;> simp
    · have hlen : L.length ≤ (if kPut l y then L else L ++ [y.Id]).length := by split <;> simp
      rcases List.mem_cons.1 hx with rfl | hx
      · have hno : kPut l x = false := by
          have : ¬ indexBy (wantT x.Id) 0 l < 0 := by
            have h2 := (indexBy_any (w := wantT x.Id) l 0 (by omega)).2 (by
              rw [List.any_eq_true]
              exact ⟨s, hs, by simp [wantT, ← hxs, h0]⟩)
            omega
          simp [kPut, this]
        have : L.length < (if kPut l x then L else L ++ [x.Id]).length := by simp [hno]
        exact Nat.lt_of_lt_of_le this ih.2.1
      · exact Nat.lt_of_le_of_lt hlen (ih.2.2 x hx hxs)
theorem left_of_in {l : List TSlot} {ts : List TThing} {x : TThing} (hk : kAll l ts = true) (hx : x ∈ ts) (hl : ¬ lookS x.Id l = 0) : ¬ mLeft l ts = [] := by
  rcases look_index (t := x.Id) l 0 (by omega) with ⟨-, h⟩ | ⟨k, hkl, hi, -⟩
  · exact absurd h hl
  · have ha := (indexBy_any (w := wantT x.Id) l 0 (by omega)).1 (by omega)
    obtain ⟨s, hs, hw⟩ := List.any_eq_true.1 ha
    simp only [wantT, Bool.and_eq_true, decide_eq_true_eq] at hw
    have hxs : x ∈ sortT ts ts.length := by
      have hp := sortT_perm ts ts.length (Nat.le_refl _)
      rw [List.take_length] at hp
      exact hp.mem_iff.2 hx
    have h := (run_keep hs (by rw [hw.2]; exact hw.1) (sortT ts ts.length) []).2.2 x hxs hw.2
    rw [mLeft, if_pos hk]
    intro e
    have e2 := congrArg List.length e
    rw [mSort_len] at e2
    simp only [List.length_nil] at e2 h
    rw [runP] at e2
    omega
theorem len_nil (L : List Int) : ((L.length : Int) == 0) = decide (L = []) := by
  cases L with
  | nil => rfl
  | cons a L =>
    have h : ¬ ((a :: L).length : Int) = 0 := by simp; omega
    rw [Bool.eq_iff_iff, beq_iff_eq, decide_eq_true_eq]
    simp; omega
/-- loop.example/g03007/impl.CanHold -/
noncomputable def c28 : Con := mkCon 28 false (α := (List TSlot) × (List TThing)) (fun x => (fun (l : List TSlot) (ts : List TThing) => [encLTSlot l, encLTThing ts]) x.1 x.2) (fun _ => []) (fun x => (fun (l : List TSlot) (ts : List TThing) => l.length ≤ 1048576 ∧ ts.length ≤ 1048576) x.1 x.2) (fun x => (fun (l : List TSlot) (ts : List TThing) => (dB (kAll l ts && decide (mLeft l ts = [])) : D)) x.1 x.2) (fun x => (fun (l : List TSlot) (ts : List TThing) => []) x.1 x.2)
@[simp] theorem c28_f : c28.f = 28 := rfl
@[simp] theorem c28_own : c28.own = false := rfl
theorem c28_inj : ∀ u_ v_ : (List TSlot) × (List TThing), ((fun x => (fun (l : List TSlot) (ts : List TThing) => [encLTSlot l, encLTThing ts]) x.1 x.2) u_).map nz = ((fun x => (fun (l : List TSlot) (ts : List TThing) => [encLTSlot l, encLTThing ts]) x.1 x.2) v_).map nz → u_ = v_ := by
  intro u_ v_ h
  obtain ⟨l, ts⟩ := u_
  obtain ⟨l', ts'⟩ := v_
  simp [nz_lit, nz1_lit, nz_agg, nz_sl, nz1_sl, encLTSlot, encLTThing] at h
  first | (simp [h]; done) | (obtain ⟨⟩ := h; simp_all; done) | simp_all
@[simp] theorem c28_fn (l : List TSlot) (ts : List TThing) : c28.fn [.sl false 3 yTSlot (ML encTSlot l), .sl false 5 yTThing (ML encTThing ts)] [] = some ((fun (l : List TSlot) (ts : List TThing) => l.length ≤ 1048576 ∧ ts.length ≤ 1048576) l ts, (fun (l : List TSlot) (ts : List TThing) => (dB (kAll l ts && decide (mLeft l ts = [])) : D)) l ts, (fun (l : List TSlot) (ts : List TThing) => []) l ts) :=
  mkCon_fn (fun x y h _ => c28_inj x y h) ((l, ts) : (List TSlot) × (List TThing)) (by simp [nz, nz1, ML_nil, encLTSlot, encLTThing]) rfl
@[simp] theorem c28_fn1 (s_l : Nat) (z_l : D) (ts : List TThing) : c28.fn [.sl false s_l z_l [], .sl false 5 yTThing (ML encTThing ts)] [] = some ((fun (l : List TSlot) (ts : List TThing) => l.length ≤ 1048576 ∧ ts.length ≤ 1048576) [] ts, (fun (l : List TSlot) (ts : List TThing) => (dB (kAll l ts && decide (mLeft l ts = [])) : D)) [] ts, (fun (l : List TSlot) (ts : List TThing) => []) [] ts) :=
  mkCon_fn (fun x y h _ => c28_inj x y h) (([], ts) : (List TSlot) × (List TThing)) (by simp [nz, nz1, ML_nil, encLTSlot, encLTThing]) rfl
@[simp] theorem c28_fn2 (l : List TSlot) (s_ts : Nat) (z_ts : D) : c28.fn [.sl false 3 yTSlot (ML encTSlot l), .sl false s_ts z_ts []] [] = some ((fun (l : List TSlot) (ts : List TThing) => l.length ≤ 1048576 ∧ ts.length ≤ 1048576) l [], (fun (l : List TSlot) (ts : List TThing) => (dB (kAll l ts && decide (mLeft l ts = [])) : D)) l [], (fun (l : List TSlot) (ts : List TThing) => []) l []) :=
  mkCon_fn (fun x y h _ => c28_inj x y h) ((l, []) : (List TSlot) × (List TThing)) (by simp [nz, nz1, ML_nil, encLTSlot, encLTThing]) rfl
@[simp] theorem c28_fn3 (s_l : Nat) (z_l : D) (s_ts : Nat) (z_ts : D) : c28.fn [.sl false s_l z_l [], .sl false s_ts z_ts []] [] = some ((fun (l : List TSlot) (ts : List TThing) => l.length ≤ 1048576 ∧ ts.length ≤ 1048576) [] [], (fun (l : List TSlot) (ts : List TThing) => (dB (kAll l ts && decide (mLeft l ts = [])) : D)) [] [], (fun (l : List TSlot) (ts : List TThing) => []) [] []) :=
  mkCon_fn (fun x y h _ => c28_inj x y h) (([], []) : (List TSlot) × (List TThing)) (by simp [nz, nz1, ML_nil, encLTSlot, encLTThing]) rfl
theorem c28_pc (l : List TSlot) (ts : List TThing) (hpre : l.length ≤ 1048576 ∧ ts.length ≤ 1048576) : PCo Try.prog 28 [encLTSlot l, encLTThing ts] (Tab.of []) (dB (kAll l ts && decide (mLeft l ts = []))) (Tab.of []) := by
  refine pco_of_run [] (E := ⟨[c21, c38, c44], [], []⟩) (m := false) (base := 0) (Env.ok_cons c21_ok (Env.ok_cons c38_ok (Env.ok_cons c44_ok Env.ok_nil))) G_ok mix 300 6 Try.func28 (by kernel_rfl) rfl (by kernel_rfl) (by kernel_rfl) rfl ?_
  simp [Try.f28]
  refine ⟨hpre, ⟨by omega, fun _ => by omega⟩, ?_⟩
  rw [len_nil]; rfl
theorem c28_ok : c28.ok Try.prog := mkCon_ok fun ⟨l, ts⟩ hpre => c28_pc l ts hpre
/-- loop.example/g03007/spec.CanHold -/
noncomputable def c27 : Con := mkCon 27 false (α := (List TSlot) × (List TThing)) (fun x => (fun (l : List TSlot) (ts : List TThing) => [encLTSlot l, encLTThing ts]) x.1 x.2) (fun _ => []) (fun x => (fun (l : List TSlot) (ts : List TThing) => l.length ≤ 1048576 ∧ ts.length ≤ 1048576) x.1 x.2) (fun x => (fun (l : List TSlot) (ts : List TThing) => (dB (kAll l ts && decide (mLeft l ts = [])) : D)) x.1 x.2) (fun x => (fun (l : List TSlot) (ts : List TThing) => []) x.1 x.2)
@[simp] theorem c27_f : c27.f = 27 := rfl
@[simp] theorem c27_own : c27.own = false := rfl
theorem c27_inj : ∀ u_ v_ : (List TSlot) × (List TThing), ((fun x => (fun (l : List TSlot) (ts : List TThing) => [encLTSlot l, encLTThing ts]) x.1 x.2) u_).map nz = ((fun x => (fun (l : List TSlot) (ts : List TThing) => [encLTSlot l, encLTThing ts]) x.1 x.2) v_).map nz → u_ = v_ := by
  intro u_ v_ h
  obtain ⟨l, ts⟩ := u_
  obtain ⟨l', ts'⟩ := v_
  simp [nz_lit, nz1_lit, nz_agg, nz_sl, nz1_sl, encLTSlot, encLTThing] at h
  first | (simp [h]; done) | (obtain ⟨⟩ := h; simp_all; done) | simp_all
@[simp] theorem c27_fn (l : List TSlot) (ts : List TThing) : c27.fn [.sl false 3 yTSlot (ML encTSlot l), .sl false 5 yTThing (ML encTThing ts)] [] = some ((fun (l : List TSlot) (ts : List TThing) => l.length ≤ 1048576 ∧ ts.length ≤ 1048576) l ts, (fun (l : List TSlot) (ts : List TThing) => (dB (kAll l ts && decide (mLeft l ts = [])) : D)) l ts, (fun (l : List TSlot) (ts : List TThing) => []) l ts) :=
  mkCon_fn (fun x y h _ => c27_inj x y h) ((l, ts) : (List TSlot) × (List TThing)) (by simp [nz, nz1, ML_nil, encLTSlot, encLTThing]) rfl
@[simp] theorem c27_fn1 (s_l : Nat) (z_l : D) (ts : List TThing) : c27.fn [.sl false s_l z_l [], .sl false 5 yTThing (ML encTThing ts)] [] = some ((fun (l : List TSlot) (ts : List TThing) => l.length ≤ 1048576 ∧ ts.length ≤ 1048576) [] ts, (fun (l : List TSlot) (ts : List TThing) => (dB (kAll l ts && decide (mLeft l ts = [])) : D)) [] ts, (fun (l : List TSlot) (ts : List TThing) => []) [] ts) :=
  mkCon_fn (fun x y h _ => c27_inj x y h) (([], ts) : (List TSlot) × (List TThing)) (by simp [nz, nz1, ML_nil, encLTSlot, encLTThing]) rfl
@[simp] theorem c27_fn2 (l : List TSlot) (s_ts : Nat) (z_ts : D) : c27.fn [.sl false 3 yTSlot (ML encTSlot l), .sl false s_ts z_ts []] [] = some ((fun (l : List TSlot) (ts : List TThing) => l.length ≤ 1048576 ∧ ts.length ≤ 1048576) l [], (fun (l : List TSlot) (ts : List TThing) => (dB (kAll l ts && decide (mLeft l ts = [])) : D)) l [], (fun (l : List TSlot) (ts : List TThing) => []) l []) :=
  mkCon_fn (fun x y h _ => c27_inj x y h) ((l, []) : (List TSlot) × (List TThing)) (by simp [nz, nz1, ML_nil, encLTSlot, encLTThing]) rfl
@[simp] theorem c27_fn3 (s_l : Nat) (z_l : D) (s_ts : Nat) (z_ts : D) : c27.fn [.sl false s_l z_l [], .sl false s_ts z_ts []] [] = some ((fun (l : List TSlot) (ts : List TThing) => l.length ≤ 1048576 ∧ ts.length ≤ 1048576) [] [], (fun (l : List TSlot) (ts : List TThing) => (dB (kAll l ts && decide (mLeft l ts = [])) : D)) [] [], (fun (l : List TSlot) (ts : List TThing) => []) [] []) :=
  mkCon_fn (fun x y h _ => c27_inj x y h) (([], []) : (List TSlot) × (List TThing)) (by simp [nz, nz1, ML_nil, encLTSlot, encLTThing]) rfl
theorem c27_pc (l : List TSlot) (ts : List TThing) (hpre : l.length ≤ 1048576 ∧ ts.length ≤ 1048576) : PCo Try.prog 27 [encLTSlot l, encLTThing ts] (Tab.of []) (dB (kAll l ts && decide (mLeft l ts = []))) (Tab.of []) := by
  refine pco_of_run [] (E := ⟨[c19, c34, c36, c42], [], []⟩) (m := false) (base := 0) (Env.ok_cons c19_ok (Env.ok_cons c34_ok (Env.ok_cons c36_ok (Env.ok_cons c42_ok Env.ok_nil)))) G_ok mix 300 6 Try.func27 (by kernel_rfl) rfl (by kernel_rfl) (by kernel_rfl) rfl ?_
  simp [Try.f27]
  refine loop_inv (fun p : Nat => p ≤ ts.length) (fun p => [(0, encLTSlot l), (1, encLTThing ts), (5, dI p)]) (fun _ => []) 1 (fun p => ts.length - p) 0 400 (by simp) (by simp) (by simp) ?_
  intro p hp
  simp
  refine ⟨fun hlt => ?_, fun hge => ?_⟩
  · have hx : (ts[p]?.getD default) ∈ ts := getD_mem hlt
    exact ⟨⟨hlt, by omega⟩, fun _ => ⟨by omega, Again.mk (p + 1) (by omega) (by simp) (by first | omega | (simp; omega))⟩, fun hne hk => left_of_in hk hx hne⟩
  · refine ⟨hpre, ⟨by omega, fun _ => by omega⟩, ?_⟩
    rw [len_nil]; rfl
theorem c27_ok : c27.ok Try.prog := mkCon_ok fun ⟨l, ts⟩ hpre => c27_pc l ts hpre

end Go.Proofs.Ytdemoobiiijmoaa
