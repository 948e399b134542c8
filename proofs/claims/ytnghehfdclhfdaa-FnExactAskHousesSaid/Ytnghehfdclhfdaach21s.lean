/- Contracts of the functions that the laws run. -/
import Derived.Test.Ytnghehfdclhfdaach03
import Derived.Test.Ytnghehfdclhfdaagrp
import Derived.Test.YtnghehfdclhfdaaEngB
namespace Go.Proofs.Ytnghehfdclhfdaa
open Go Go.Eng
set_option linter.unusedSimpArgs false
set_option linter.unusedVariables false
set_option maxRecDepth 10000
set_option maxHeartbeats 1000000
def setI (l : List Int) : List Int := l.foldl insI []
theorem insI_mem_iff {ks : List Int} {v w : Int} : w ∈ insI ks v ↔ w ∈ ks ∨ w = v := by
  by_cases h : v ∈ ks <;> simp [insI, h]
  rintro rfl; exact h
theorem insI_nodup {ks : List Int} {v : Int} (h : ks.Nodup) : (insI ks v).Nodup := by
  by_cases hv : v ∈ ks
  · rw [insI_mem hv]; exact h
  · simp only [insI, if_neg hv]
    rw [List.nodup_append]
    exact ⟨h, by simp, fun a ha b hb => by simp at hb; subst hb; rintro rfl; exact hv ha⟩
theorem foldI : ∀ (l ks : List Int), ks.Nodup → (l.foldl insI ks).Nodup ∧ ∀ w, w ∈ l.foldl insI ks ↔ w ∈ ks ∨ w ∈ l
  | [], ks, h => ⟨h, by simp⟩
  | x :: l, ks, h => by
    have := foldI l (insI ks x) (insI_nodup h)
    refine ⟨this.1, fun w => ?_⟩
    rw [List.foldl_cons, this.2 w, insI_mem_iff, List.mem_cons, or_assoc]
theorem setI_nodup (l : List Int) : (setI l).Nodup := (foldI l [] List.nodup_nil).1
@[simp] theorem setI_mem {l : List Int} {w : Int} : w ∈ setI l ↔ w ∈ l := by
  have := (foldI l [] List.nodup_nil).2 w
  simpa [setI] using this
theorem setI_at {l : List Int} {p : Nat} (h : p < l.length) : setI (l.take (p + 1)) = insI (setI (l.take p)) (l[p]?.getD 0) := by
  rw [take_at (d := 0) h]; simp [setI]
theorem insI_len (ks : List Int) (v : Int) : (insI ks v).length ≤ ks.length + 1 := by
  simp only [insI]; split <;> simp
theorem setI_len (l : List Int) : (setI l).length ≤ l.length := by
  have : ∀ (l ks : List Int), (l.foldl insI ks).length ≤ ks.length + l.length := by
    intro l
    induction l with
    | nil => intro ks; simp
    | cons x l ih =>
      intro ks
      have h1 := ih (insI ks x)
      have h2 := insI_len ks x
      simp only [List.foldl_cons, List.length_cons]; omega
  have := this l []
  simpa [setI] using this
def allT (ks : List Int) : List D := List.replicate ks.length (dB true)
theorem posK_some_lt {v : Int} {ks : List Int} {j : Nat} (h : posK [v] (keysI ks) = some j) : v ∈ ks := by
  have := posK_keys (v := v) (ks := ks)
  rw [h] at this; simpa using this
theorem posK_none_I {v : Int} {ks : List Int} (h : posK [v] (keysI ks) = none) : v ∉ ks := by
  have := posK_keys (v := v) (ks := ks)
  rw [h] at this; simpa using this
@[simp] theorem updK_all {ks : List Int} {v : Int} : updK (keysI ks) (allT ks) [v] (dB true) = allT (insI ks v) := by
  cases h : posK [v] (keysI ks) with
  | none => simp [updK, h, allT, insI, posK_none_I h, List.replicate_succ']
  | some j => simp [updK, h, allT, insI, posK_some_lt h, List.set_replicate_self]
theorem posK_I_lt {v : Int} : ∀ {ks : List Int} {j : Nat}, posK [v] (keysI ks) = some j → j < ks.length
  | [], j, h => by simp [keysI, posK] at h
  | k :: ks, j, h => by
    simp only [keysI, List.map_cons, posK] at h
    split at h
    · simp only [Option.some.injEq] at h; subst h; simp
    · cases hp : posK [v] (ks.map fun k => [k]) with
      | none => rw [hp] at h; cases h
      | some i =>
        rw [hp] at h
        simp only [Option.map_some, Option.some.injEq] at h; subst h
        have := posK_I_lt (ks := ks) hp
        simp; omega
@[simp] theorem look_all {ks : List Int} {v : Int} : (lookK (keysI ks) (allT ks) [v]).getD (.lit (.bool false)) = dB (decide (v ∈ ks)) := by
  cases h : posK [v] (keysI ks) with
  | none => simp [lookK, h, posK_none_I h]
  | some j => simp [lookK, h, posK_some_lt h, allT, posK_I_lt h]
@[simp] theorem allT_flat (ks : List Int) : (allT ks).all flatD = true := by simp [allT, flatD]
@[simp] theorem allT_flats (ks : List Int) : flatDs (allT ks) = true := by
  have : ∀ n : Nat, flatDs (List.replicate n (dB true)) = true := fun n => by
    induction n with
    | zero => rfl
    | succ n ih => simp [List.replicate_succ, flatDs, flatD, ih]
  exact this _
@[simp] theorem keyI_at (ks : List Int) (i : Nat) : (((keysI ks)[i]?.getD []).headD 0) = ks[i]?.getD 0 := by
  simp only [keysI, List.getElem?_map]
  cases ks[i]? <;> rfl
@[simp] theorem keyI_at3 (ks : List Int) (i : Nat) : ((keysI ks)[i]?.getD []).head?.getD 0 = ks[i]?.getD 0 := by
  simp only [keysI, List.getElem?_map]
  cases ks[i]? <;> rfl
@[simp] theorem keyI_at2 (ks : List Int) (i : Nat) : (((keysI ks).getD i []).headD 0) = ks[i]?.getD 0 := keyI_at ks i
@[simp] theorem keysI_len (ks : List Int) : (keysI ks).length = ks.length := by simp [keysI]
@[simp] theorem allT_len (ks : List Int) : (allT ks).length = ks.length := by simp [allT]
attribute [simp] nz_fm
/-- (loop.example/g03007/impl.numberSet).add -/
noncomputable def c80 : Con := mkCon 80 true (α := (List Int) × Int) (fun x => (fun (ks : List Int) (n : Int) => ([.mp (0, 0), dI n] : List D)) x.1 x.2) (fun x => (fun (ks : List Int) (n : Int) => ([((0, 0), .map 0 (keysI ks) (dB false) (allT ks))] : List (Nm × OO))) x.1 x.2) (fun x => (fun (ks : List Int) (n : Int) => True) x.1 x.2) (fun x => (fun (ks : List Int) (n : Int) => (.tup [] : D)) x.1 x.2) (fun x => (fun (ks : List Int) (n : Int) => ([((0, 0), .map 0 (keysI (insI ks n)) (dB false) (allT (insI ks n)))] : List (Nm × OO))) x.1 x.2)
@[simp] theorem c80_f : c80.f = 80 := rfl
@[simp] theorem c80_own : c80.own = true := rfl
theorem c80_inj : ∀ u_ v_ : (List Int) × Int, ((fun x => (fun (ks : List Int) (n : Int) => ([.mp (0, 0), dI n] : List D)) x.1 x.2) u_).map nz = ((fun x => (fun (ks : List Int) (n : Int) => ([.mp (0, 0), dI n] : List D)) x.1 x.2) v_).map nz → (fun x => (fun (ks : List Int) (n : Int) => ([((0, 0), .map 0 (keysI ks) (dB false) (allT ks))] : List (Nm × OO))) x.1 x.2) u_ = (fun x => (fun (ks : List Int) (n : Int) => ([((0, 0), .map 0 (keysI ks) (dB false) (allT ks))] : List (Nm × OO))) x.1 x.2) v_ → u_ = v_ := by
  intro u_ v_ h h2_
  obtain ⟨ks, n⟩ := u_
  obtain ⟨ks', n'⟩ := v_
  simp [nz_lit, nz1_lit, nz_agg, nz_sl, nz1_sl, nz_sx, nz_el, nz1_el, nz_own, nz1_own, nz_ptr, nz_fn, nz_iface] at h h2_
  first | (simp [h, h2_]; done) | (obtain ⟨h3_, h4_⟩ := List.append_inj h2_ h.1; simp_all; done) | simp_all | grind
@[simp] theorem c80_fn (ks : List Int) (n : Int) : c80.fn ([.mp (0, 0), dI n]) ([((0, 0), .map 0 (keysI ks) (dB false) (allT ks))]) = some (True, .tup [], [((0, 0), .map 0 (keysI (insI ks n)) (dB false) (allT (insI ks n)))]) :=
  mkCon_fn c80_inj ((ks, n) : (List Int) × Int) rfl rfl
theorem c80_pc (ks : List Int) (n : Int) : PCo Try.prog 80 ([.mp (0, 0), dI n]) (Tab.of ([((0, 0), .map 0 (keysI ks) (dB false) (allT ks))])) (.tup []) (Tab.of ([((0, 0), .map 0 (keysI (insI ks n)) (dB false) (allT (insI ks n)))])) := by
  refine pco_of_run [] (E := ⟨[], [], []⟩) (m := false) (base := 0) Env.ok_nil G_ok mix 300 6 Try.func80 (by kernel_rfl) rfl (by kernel_rfl) (by kernel_rfl) rfl ?_
  simp [Try.f80]
  first | done | skip
theorem c80_ok : c80.ok Try.prog := mkCon_ok fun ⟨ks, n⟩ hpre => c80_pc ks n
/-- loop.example/g03007/impl.numberSetOf -/
noncomputable def c82 : Con := mkCon 82 false (α := (List Int)) (fun x => (fun (l : List Int) => [encLI l]) x) (fun _ => []) (fun x => (fun (l : List Int) => l.length ≤ 1073741823) x) (fun x => (fun (l : List Int) => (.fm 0 (keysI (setI l)) (dB false) (allT (setI l)) : D)) x) (fun x => (fun (l : List Int) => []) x)
@[simp] theorem c82_f : c82.f = 82 := rfl
@[simp] theorem c82_own : c82.own = false := rfl
theorem c82_inj : ∀ u_ v_ : (List Int), ((fun x => (fun (l : List Int) => [encLI l]) x) u_).map nz = ((fun x => (fun (l : List Int) => [encLI l]) x) v_).map nz → u_ = v_ := by
  intro u_ v_ h
  obtain l := u_
  obtain l' := v_
  simp [nz_lit, nz1_lit, nz_agg, nz_sl, nz1_sl, encLI] at h
  first | (simp [h]; done) | (obtain ⟨⟩ := h; simp_all; done) | simp_all
@[simp] theorem c82_fn (l : List Int) : c82.fn [.sl false 1 (.lit (.int .i64 0)) (ML dI l)] [] = some ((fun (l : List Int) => l.length ≤ 1073741823) l, (fun (l : List Int) => (.fm 0 (keysI (setI l)) (dB false) (allT (setI l)) : D)) l, (fun (l : List Int) => []) l) :=
  mkCon_fn (fun x y h _ => c82_inj x y h) (l : (List Int)) (by simp [nz, nz1, ML_nil, encLI]) rfl
@[simp] theorem c82_fn1 (s_l : Nat) (z_l : D) : c82.fn [.sl false s_l z_l []] [] = some ((fun (l : List Int) => l.length ≤ 1073741823) [], (fun (l : List Int) => (.fm 0 (keysI (setI l)) (dB false) (allT (setI l)) : D)) [], (fun (l : List Int) => []) []) :=
  mkCon_fn (fun x y h _ => c82_inj x y h) ([] : (List Int)) (by simp [nz, nz1, ML_nil, encLI]) rfl
theorem c82_pc (l : List Int) (hpre : l.length ≤ 1073741823) : PCo Try.prog 82 [encLI l] (Tab.of []) (.fm 0 (keysI (setI l)) (dB false) (allT (setI l))) (Tab.of []) := by
  refine pco_of_run [] (E := ⟨[c80, c80], [], []⟩) (m := false) (base := 0) (Env.ok_cons c80_ok (Env.ok_cons c80_ok Env.ok_nil)) G_ok mix 300 6 Try.func82 (by kernel_rfl) rfl (by kernel_rfl) (by kernel_rfl) rfl ?_
  simp [Try.f82]
  refine loop_inv (fun p : Nat => p ≤ l.length) (fun p => [(3, .mp (0, 1)), (7, encLI l), (8, dI l.length), (9, dI p)]) (fun p => [((0, 1), .map 0 (keysI (setI (l.take p))) (dB false) (allT (setI (l.take p))))]) 2 (fun p => l.length - p) 0 400 (by simp) (by simp) (by simp [setI, keysI, allT]) ?_
  intro p hp
  simp
  refine ⟨fun hlt => ?_, fun hge => ?_⟩
  · have hs := setI_at hlt
    repeat' (first | omega | refine And.intro ?_ ?_ | intro _)
    refine Again.mk (p + 1) (by omega) (by simp [hs]) (by first | omega | (simp; omega))
  · rw [List.take_of_length_le hge]; exact ⟨rfl, rfl⟩
theorem c82_ok : c82.ok Try.prog := mkCon_ok fun l hpre => c82_pc l hpre
def inB (b : List Int) (v : Int) : Bool := decide (v ∈ b)
def okSeen (n : Nat) (l : List Nat) : Prop := l.Nodup ∧ ∀ i ∈ l, i < n
theorem okSeen_snoc {n i : Nat} {l : List Nat} (h : okSeen n l) (hi : i < n) (hs : i ∉ l) : okSeen n (l ++ [i]) := by
  refine ⟨?_, fun j hj => ?_⟩
  · rw [List.nodup_append]
    exact ⟨h.1, by simp, fun a ha b hb => by simp at hb; subst hb; rintro rfl; exact hs ha⟩
  · rcases List.mem_append.1 hj with hj | hj
    · exact h.2 j hj
    · simp at hj; subst hj; exact hi
def hits (a b : List Int) (l : List Nat) : Nat := l.countP fun i => inB b (a[i]?.getD 0)
theorem hits_range (a b : List Int) : hits a b (List.range a.length) = a.countP (inB b) := by
  have : a = (List.range a.length).map fun i => a[i]?.getD 0 := by
    apply List.ext_getElem <;> simp
    intro i h; simp [h]
  conv => rhs; rw [this]
  rw [List.countP_map]; rfl
theorem hits_all {a b : List Int} {l : List Nat} (h : okSeen a.length l) (ha : ∀ i, i < a.length → i ∈ l) : hits a b l = a.countP (inB b) := by
  rw [← hits_range]
  exact (seen_perm h.1 h.2 ha).countP_eq _
theorem hits_le {a b : List Int} {l : List Nat} : hits a b l ≤ l.length := List.countP_le_length
/-- (loop.example/g03007/impl.numberSet).shared -/
noncomputable def c83 : Con := mkCon 83 false (α := (List Int) × (List Int)) (fun x => (fun (a : List Int) (b : List Int) => ([.fm 0 (keysI a) (dB false) (allT a), .fm 0 (keysI b) (dB false) (allT b)] : List D)) x.1 x.2) (fun x => (fun (a : List Int) (b : List Int) => ([] : List (Nm × OO))) x.1 x.2) (fun x => (fun (a : List Int) (b : List Int) => a.length ≤ 1073741823) x.1 x.2) (fun x => (fun (a : List Int) (b : List Int) => (dI (a.countP (inB b)) : D)) x.1 x.2) (fun x => (fun (a : List Int) (b : List Int) => ([] : List (Nm × OO))) x.1 x.2)
@[simp] theorem c83_f : c83.f = 83 := rfl
@[simp] theorem c83_own : c83.own = false := rfl
theorem c83_inj : ∀ u_ v_ : (List Int) × (List Int), ((fun x => (fun (a : List Int) (b : List Int) => ([.fm 0 (keysI a) (dB false) (allT a), .fm 0 (keysI b) (dB false) (allT b)] : List D)) x.1 x.2) u_).map nz = ((fun x => (fun (a : List Int) (b : List Int) => ([.fm 0 (keysI a) (dB false) (allT a), .fm 0 (keysI b) (dB false) (allT b)] : List D)) x.1 x.2) v_).map nz → (fun x => (fun (a : List Int) (b : List Int) => ([] : List (Nm × OO))) x.1 x.2) u_ = (fun x => (fun (a : List Int) (b : List Int) => ([] : List (Nm × OO))) x.1 x.2) v_ → u_ = v_ := by
  intro u_ v_ h h2_
  obtain ⟨a, b⟩ := u_
  obtain ⟨a', b'⟩ := v_
  simp [nz_lit, nz1_lit, nz_agg, nz_sl, nz1_sl, nz_sx, nz_el, nz1_el, nz_own, nz1_own, nz_ptr, nz_fn, nz_iface] at h h2_
  first | (simp [h, h2_]; done) | (obtain ⟨h3_, h4_⟩ := List.append_inj h2_ h.1; simp_all; done) | simp_all | grind
@[simp] theorem c83_fn (a : List Int) (b : List Int) : c83.fn ([.fm 0 (keysI a) (dB false) (allT a), .fm 0 (keysI b) (dB false) (allT b)]) ([]) = some (a.length ≤ 1073741823, dI (a.countP (inB b)), []) :=
  mkCon_fn c83_inj ((a, b) : (List Int) × (List Int)) rfl rfl
theorem c83_pc (a : List Int) (b : List Int) (hpre : a.length ≤ 1073741823) : PCo Try.prog 83 ([.fm 0 (keysI a) (dB false) (allT a), .fm 0 (keysI b) (dB false) (allT b)]) (Tab.of ([])) (dI (a.countP (inB b))) (Tab.of ([])) := by
  refine pco_of_run [] (E := ⟨[], [], []⟩) (m := false) (base := 0) Env.ok_nil G_ok mix 300 6 Try.func83 (by kernel_rfl) rfl (by kernel_rfl) (by kernel_rfl) rfl ?_
  simp [Try.f83]
  refine loop_inv (fun l : List Nat => okSeen a.length l) (fun l => [(1, .fm 0 (keysI b) (dB false) (allT b)), (5, dI (hits a b l)), (8, .it (0, 1))]) (fun l => [((0, 1), .mit 0 (keysI a) (dB false) (allT a) l)]) 2 (fun l => a.length - l.length) [] 400 (by simp) (by simp [okSeen]) (by simp [hits]) ?_
  intro l hl
  simp
  have hs2 : ∀ i, hits a b (l ++ [i]) = hits a b l + if a[i]?.getD 0 ∈ b then 1 else 0 := fun i => by
    simp only [hits, List.countP_append, List.countP_singleton, inB]
    by_cases h : a[i]?.getD 0 ∈ b <;> simp [h]
  refine ⟨fun i hi hs => ?_, fun hall => ?_⟩
  · have h1 := hits_le (a := a) (b := b) (l := l)
    have h2 := seen_lt hl.1 hl.2 hi hs
    refine ⟨fun h => ⟨by omega, ?_⟩, fun h => ?_⟩
    · exact Again.mk (l ++ [i]) (okSeen_snoc hl hi hs) (by simp [hs2, h]) (by first | omega | (simp; omega))
    · exact Again.mk (l ++ [i]) (okSeen_snoc hl hi hs) (by simp [hs2, h]) (by first | omega | (simp; omega))
  · rw [hits_all hl hall]
theorem c83_ok : c83.ok Try.prog := mkCon_ok fun ⟨a, b⟩ hpre => c83_pc a b hpre
def mShared (a b : List Int) : Nat := (setI a).countP (inB b)
/-- loop.example/g03007/impl.SharedHints -/
noncomputable def c56 : Con := mkCon 56 false (α := (List Int) × (List Int)) (fun x => (fun (a : List Int) (b : List Int) => [encLI a, encLI b]) x.1 x.2) (fun _ => []) (fun x => (fun (a : List Int) (b : List Int) => a.length ≤ 1073741823 ∧ b.length ≤ 1073741823) x.1 x.2) (fun x => (fun (a : List Int) (b : List Int) => (dI (mShared a b) : D)) x.1 x.2) (fun x => (fun (a : List Int) (b : List Int) => []) x.1 x.2)
@[simp] theorem c56_f : c56.f = 56 := rfl
@[simp] theorem c56_own : c56.own = false := rfl
theorem c56_inj : ∀ u_ v_ : (List Int) × (List Int), ((fun x => (fun (a : List Int) (b : List Int) => [encLI a, encLI b]) x.1 x.2) u_).map nz = ((fun x => (fun (a : List Int) (b : List Int) => [encLI a, encLI b]) x.1 x.2) v_).map nz → u_ = v_ := by
  intro u_ v_ h
  obtain ⟨a, b⟩ := u_
  obtain ⟨a', b'⟩ := v_
  simp [nz_lit, nz1_lit, nz_agg, nz_sl, nz1_sl, encLI] at h
  first | (simp [h]; done) | (obtain ⟨⟩ := h; simp_all; done) | simp_all
@[simp] theorem c56_fn (a : List Int) (b : List Int) : c56.fn [.sl false 1 (.lit (.int .i64 0)) (ML dI a), .sl false 1 (.lit (.int .i64 0)) (ML dI b)] [] = some ((fun (a : List Int) (b : List Int) => a.length ≤ 1073741823 ∧ b.length ≤ 1073741823) a b, (fun (a : List Int) (b : List Int) => (dI (mShared a b) : D)) a b, (fun (a : List Int) (b : List Int) => []) a b) :=
  mkCon_fn (fun x y h _ => c56_inj x y h) ((a, b) : (List Int) × (List Int)) (by simp [nz, nz1, ML_nil, encLI]) rfl
@[simp] theorem c56_fn1 (s_a : Nat) (z_a : D) (b : List Int) : c56.fn [.sl false s_a z_a [], .sl false 1 (.lit (.int .i64 0)) (ML dI b)] [] = some ((fun (a : List Int) (b : List Int) => a.length ≤ 1073741823 ∧ b.length ≤ 1073741823) [] b, (fun (a : List Int) (b : List Int) => (dI (mShared a b) : D)) [] b, (fun (a : List Int) (b : List Int) => []) [] b) :=
  mkCon_fn (fun x y h _ => c56_inj x y h) (([], b) : (List Int) × (List Int)) (by simp [nz, nz1, ML_nil, encLI]) rfl
@[simp] theorem c56_fn2 (a : List Int) (s_b : Nat) (z_b : D) : c56.fn [.sl false 1 (.lit (.int .i64 0)) (ML dI a), .sl false s_b z_b []] [] = some ((fun (a : List Int) (b : List Int) => a.length ≤ 1073741823 ∧ b.length ≤ 1073741823) a [], (fun (a : List Int) (b : List Int) => (dI (mShared a b) : D)) a [], (fun (a : List Int) (b : List Int) => []) a []) :=
  mkCon_fn (fun x y h _ => c56_inj x y h) ((a, []) : (List Int) × (List Int)) (by simp [nz, nz1, ML_nil, encLI]) rfl
@[simp] theorem c56_fn3 (s_a : Nat) (z_a : D) (s_b : Nat) (z_b : D) : c56.fn [.sl false s_a z_a [], .sl false s_b z_b []] [] = some ((fun (a : List Int) (b : List Int) => a.length ≤ 1073741823 ∧ b.length ≤ 1073741823) [] [], (fun (a : List Int) (b : List Int) => (dI (mShared a b) : D)) [] [], (fun (a : List Int) (b : List Int) => []) [] []) :=
  mkCon_fn (fun x y h _ => c56_inj x y h) (([], []) : (List Int) × (List Int)) (by simp [nz, nz1, ML_nil, encLI]) rfl
theorem c56_pc (a : List Int) (b : List Int) (hpre : a.length ≤ 1073741823 ∧ b.length ≤ 1073741823) : PCo Try.prog 56 [encLI a, encLI b] (Tab.of []) (dI (mShared a b)) (Tab.of []) := by
  refine pco_of_run [] (E := ⟨[c82, c83], [], []⟩) (m := false) (base := 0) (Env.ok_cons c82_ok (Env.ok_cons c83_ok Env.ok_nil)) G_ok mix 300 6 Try.func56 (by kernel_rfl) rfl (by kernel_rfl) (by kernel_rfl) rfl ?_
  simp [Try.f56]
  have h := setI_len a
  have e : inB (setI b) = inB b := by funext v; simp [inB]
  refine ⟨⟨hpre.1, hpre.2, by omega⟩, ?_⟩
  rw [mShared, e]
theorem c56_ok : c56.ok Try.prog := mkCon_ok fun ⟨a, b⟩ hpre => c56_pc a b hpre
def putI : List Int → Int → List Int
  | [], n => [n]
  | x :: t, n => if x < n then x :: putI t n else if x = n then x :: t else n :: x :: t
def cutI (l : List Int) (n : Int) : Nat := (l.takeWhile fun x => decide (x < n)).length
theorem cutI_le (l : List Int) (n : Int) : cutI l n ≤ l.length := (List.takeWhile_sublist _).length_le
theorem cutI_at : ∀ {l : List Int} {n : Int} {p : Nat}, p ≤ cutI l n → p < l.length → (p < cutI l n ↔ l[p]?.getD 0 < n)
  | [], n, p, _, h => by simp at h
  | x :: t, n, 0, _, _ => by
    by_cases h : x < n <;> simp [cutI, h]
  | x :: t, n, p + 1, h, h2 => by
    by_cases hx : x < n
    · simp only [cutI, List.takeWhile_cons, hx, decide_true, if_true, List.length_cons] at h ⊢
      have := cutI_at (l := t) (n := n) (p := p) (by simp only [cutI]; omega) (by simpa using h2)
      simp only [cutI] at this
      simp only [List.getElem?_cons_succ]
      omega
    · simp [cutI, hx] at h
theorem putI_cut : ∀ (l : List Int) (n : Int), putI l n = if cutI l n < l.length ∧ l[cutI l n]?.getD 0 = n then l else l.take (cutI l n) ++ n :: l.drop (cutI l n)
  | [], n => by simp [putI, cutI]
  | x :: t, n => by
    by_cases hx : x < n
    · have hc : cutI (x :: t) n = cutI t n + 1 := by simp [cutI, hx]
      rw [hc, putI, if_pos hx, putI_cut t n]
      by_cases h : cutI t n < t.length ∧ t[cutI t n]?.getD 0 = n
      · rw [if_pos h, if_pos ⟨by simp; omega, by simpa using h.2⟩]
      · rw [if_neg h, if_neg (fun e => h ⟨by simpa using e.1, by simpa using e.2⟩)]; simp
    · have hc : cutI (x :: t) n = 0 := by simp [cutI, hx]
      rw [hc, putI, if_neg hx]
      by_cases h : x = n <;> simp [h]
theorem putI_len (l : List Int) (n : Int) : (putI l n).length ≤ l.length + 1 := by
  have := cutI_le l n
  rw [putI_cut]; split
  · omega
  · simp; omega
theorem putI_mem : ∀ {l : List Int} {n w : Int}, w ∈ putI l n ↔ w = n ∨ w ∈ l
  | [], n, w => by simp [putI]
  | x :: t, n, w => by
    simp only [putI]
    split
    · rw [List.mem_cons, putI_mem (l := t), List.mem_cons]; grind
    · split
      · rename_i h; subst h; simp
      · simp
theorem putI_asc : ∀ {l : List Int} {n : Int}, l.Pairwise (· < ·) → (putI l n).Pairwise (· < ·)
  | [], n, _ => by simp [putI]
  | x :: t, n, h => by
    have h1 := List.pairwise_cons.1 h
    simp only [putI]
    split
    · rename_i hx
      refine List.pairwise_cons.2 ⟨fun y hy => ?_, putI_asc h1.2⟩
      rcases putI_mem.1 hy with e | e
      · subst e; exact hx
      · exact h1.1 y e
    · split
      · exact h
      · refine List.pairwise_cons.2 ⟨fun y hy => ?_, h⟩
        rcases List.mem_cons.1 hy with e | e
        · subst e; omega
        · have := h1.1 y e; omega
theorem mem_at {l : List Int} {p : Nat} {n : Int} (h : p < l.length) : n ∈ l.drop p ↔ (n = l[p]?.getD 0 ∨ n ∈ l.drop (p + 1)) := by
  rw [drop_at (d := 0) h, List.mem_cons]
theorem mem_end {l : List Int} {p : Nat} {n : Int} (h : l.length ≤ p) : ¬ n ∈ l.drop p := by
  rw [List.drop_eq_nil_of_le h]; simp
/-- loop.example/g03007/spec.l8Has -/
noncomputable def c87 : Con := mkCon 87 false (α := (List Int) × Int) (fun x => (fun (l : List Int) (n : Int) => [encLI l, dI n]) x.1 x.2) (fun _ => []) (fun x => (fun (l : List Int) (n : Int) => l.length ≤ 1099511627776) x.1 x.2) (fun x => (fun (l : List Int) (n : Int) => (dB (decide (n ∈ l)) : D)) x.1 x.2) (fun x => (fun (l : List Int) (n : Int) => []) x.1 x.2)
@[simp] theorem c87_f : c87.f = 87 := rfl
@[simp] theorem c87_own : c87.own = false := rfl
theorem c87_inj : ∀ u_ v_ : (List Int) × Int, ((fun x => (fun (l : List Int) (n : Int) => [encLI l, dI n]) x.1 x.2) u_).map nz = ((fun x => (fun (l : List Int) (n : Int) => [encLI l, dI n]) x.1 x.2) v_).map nz → u_ = v_ := by
  intro u_ v_ h
  obtain ⟨l, n⟩ := u_
  obtain ⟨l', n'⟩ := v_
  simp [nz_lit, nz1_lit, nz_agg, nz_sl, nz1_sl, encLI] at h
  first | (simp [h]; done) | (obtain ⟨⟩ := h; simp_all; done) | simp_all
@[simp] theorem c87_fn (l : List Int) (n : Int) : c87.fn [.sl false 1 (.lit (.int .i64 0)) (ML dI l), .lit (.int .i64 n)] [] = some ((fun (l : List Int) (n : Int) => l.length ≤ 1099511627776) l n, (fun (l : List Int) (n : Int) => (dB (decide (n ∈ l)) : D)) l n, (fun (l : List Int) (n : Int) => []) l n) :=
  mkCon_fn (fun x y h _ => c87_inj x y h) ((l, n) : (List Int) × Int) (by simp [nz, nz1, ML_nil, encLI]) rfl
@[simp] theorem c87_fn1 (s_l : Nat) (z_l : D) (n : Int) : c87.fn [.sl false s_l z_l [], .lit (.int .i64 n)] [] = some ((fun (l : List Int) (n : Int) => l.length ≤ 1099511627776) [] n, (fun (l : List Int) (n : Int) => (dB (decide (n ∈ l)) : D)) [] n, (fun (l : List Int) (n : Int) => []) [] n) :=
  mkCon_fn (fun x y h _ => c87_inj x y h) (([], n) : (List Int) × Int) (by simp [nz, nz1, ML_nil, encLI]) rfl
theorem c87_pc (l : List Int) (n : Int) (hpre : l.length ≤ 1099511627776) : PCo Try.prog 87 [encLI l, dI n] (Tab.of []) (dB (decide (n ∈ l))) (Tab.of []) := by
  refine pco_of_run [] (E := ⟨[], [], []⟩) (m := false) (base := 0) Env.ok_nil G_ok mix 300 6 Try.func87 (by kernel_rfl) rfl (by kernel_rfl) (by kernel_rfl) rfl ?_
  simp [Try.f87]
  refine loop_inv (fun p : Nat => p ≤ l.length ∧ (n ∈ l ↔ n ∈ l.drop p)) (fun p => [(0, encLI l), (1, dI n), (4, dB false), (5, dI p)]) (fun _ => []) 1 (fun p => l.length - p) 0 400 (by simp) (by simp) (by simp) ?_
  intro p ⟨hp, hi⟩
  simp
  refine ⟨fun hlt => ?_, fun hge => ?_⟩
  · rw [mem_at hlt] at hi
    repeat' (first | omega | refine And.intro ?_ ?_ | intro _)
    all_goals first | exact Again.mk (p + 1) ⟨by omega, by rw [hi]; grind⟩ (by simp) (by first | omega | (simp; omega)) | grind
  · have := mem_end (n := n) hge; grind
theorem c87_ok : c87.ok Try.prog := mkCon_ok fun ⟨l, n⟩ hpre => c87_pc l n hpre
/-- loop.example/g03007/spec.l9Put -/
noncomputable def c106 : Con := mkCon 106 false (α := (List Int) × Int) (fun x => (fun (l : List Int) (n : Int) => [encLI l, dI n]) x.1 x.2) (fun _ => []) (fun x => (fun (l : List Int) (n : Int) => l.length ≤ 1073741823) x.1 x.2) (fun x => (fun (l : List Int) (n : Int) => (.own (0, 1) 1 0 (putI l n).length : D)) x.1 x.2) (fun x => (fun (l : List Int) (n : Int) => [((0, 1), .arr false 1 (dI 0) (ML dI (putI l n)))]) x.1 x.2)
@[simp] theorem c106_f : c106.f = 106 := rfl
@[simp] theorem c106_own : c106.own = false := rfl
theorem c106_inj : ∀ u_ v_ : (List Int) × Int, ((fun x => (fun (l : List Int) (n : Int) => [encLI l, dI n]) x.1 x.2) u_).map nz = ((fun x => (fun (l : List Int) (n : Int) => [encLI l, dI n]) x.1 x.2) v_).map nz → u_ = v_ := by
  intro u_ v_ h
  obtain ⟨l, n⟩ := u_
  obtain ⟨l', n'⟩ := v_
  simp [nz_lit, nz1_lit, nz_agg, nz_sl, nz1_sl, encLI] at h
  first | (simp [h]; done) | (obtain ⟨⟩ := h; simp_all; done) | simp_all
@[simp] theorem c106_fn (l : List Int) (n : Int) : c106.fn [.sl false 1 (.lit (.int .i64 0)) (ML dI l), .lit (.int .i64 n)] [] = some ((fun (l : List Int) (n : Int) => l.length ≤ 1073741823) l n, (fun (l : List Int) (n : Int) => (.own (0, 1) 1 0 (putI l n).length : D)) l n, (fun (l : List Int) (n : Int) => [((0, 1), .arr false 1 (dI 0) (ML dI (putI l n)))]) l n) :=
  mkCon_fn (fun x y h _ => c106_inj x y h) ((l, n) : (List Int) × Int) (by simp [nz, nz1, ML_nil, encLI]) rfl
@[simp] theorem c106_fn1 (s_l : Nat) (z_l : D) (n : Int) : c106.fn [.sl false s_l z_l [], .lit (.int .i64 n)] [] = some ((fun (l : List Int) (n : Int) => l.length ≤ 1073741823) [] n, (fun (l : List Int) (n : Int) => (.own (0, 1) 1 0 (putI l n).length : D)) [] n, (fun (l : List Int) (n : Int) => [((0, 1), .arr false 1 (dI 0) (ML dI (putI l n)))]) [] n) :=
  mkCon_fn (fun x y h _ => c106_inj x y h) (([], n) : (List Int) × Int) (by simp [nz, nz1, ML_nil, encLI]) rfl
theorem c106_pc (l : List Int) (n : Int) (hpre : l.length ≤ 1073741823) : PCo Try.prog 106 [encLI l, dI n] (Tab.of []) (.own (0, 1) 1 0 (putI l n).length) (Tab.of [((0, 1), .arr false 1 (dI 0) (ML dI (putI l n)))]) := by
  refine pco_of_run [] (E := ⟨[], [], []⟩) (m := false) (base := 0) Env.ok_nil G_ok mix 300 6 Try.func106 (by kernel_rfl) rfl (by kernel_rfl) (by kernel_rfl) rfl ?_
  simp [Try.f106]
  have hcl := cutI_le l n
  refine loop_inv (fun p : Nat => p ≤ cutI l n) (fun p => [(0, encLI l), (1, dI n), (5, dI p)]) (fun _ => []) 1 (fun p => l.length - p) 0 400 (by simp) (by simp) (by simp) ?_
  intro p hp
  simp
  have hc := fun h => cutI_at (l := l) (n := n) (p := p) hp h
  refine ⟨fun hlt hw => ⟨by omega, Again.mk (p + 1) (by have := (hc hlt).2 hw; omega) (by simp) (by first | omega | (simp; omega))⟩, fun hge => ?_⟩
  have hpc : p = cutI l n := by
    by_cases h : p < l.length
    · have := hc h
      have := hge h
      omega
    · omega
  subst hpc
  have hpi := putI_cut l n
  have hm : min (cutI l n) l.length = cutI l n := by omega
  rw [hm]
  refine ⟨fun h1 h2 => ?_, fun h => ?_⟩
  · rw [if_pos ⟨h1, h2⟩] at hpi
    rw [hpi]; exact ⟨by omega, rfl, rfl⟩
  · rw [if_neg (fun e => h e.1 e.2)] at hpi
    rw [hpi]
    exact ⟨by omega, by simp; omega, rfl⟩
theorem c106_ok : c106.ok Try.prog := mkCon_ok fun ⟨l, n⟩ hpre => c106_pc l n hpre
def sP (a b : List Int) (p : Nat) : List Int := ((a.take p).filter (inB b)).foldl putI []
theorem sP_yes {a b : List Int} {p : Nat} (h : p < a.length) (h2 : a[p]?.getD 0 ∈ b) : sP a b (p + 1) = putI (sP a b p) (a[p]?.getD 0) := by
  rw [sP, take_at (d := 0) h, List.filter_append]
  have : [a[p]?.getD 0].filter (inB b) = [a[p]?.getD 0] := by simp [List.filter, inB, h2]
  rw [this]; simp [sP]
theorem sP_no {a b : List Int} {p : Nat} (h : p < a.length) (h2 : a[p]?.getD 0 ∉ b) : sP a b (p + 1) = sP a b p := by
  rw [sP, take_at (d := 0) h, List.filter_append]
  have : [a[p]?.getD 0].filter (inB b) = [] := by simp [List.filter, inB, h2]
  rw [this]; simp [sP]
theorem foldP : ∀ (l ks : List Int), ks.Pairwise (· < ·) → (l.foldl putI ks).Pairwise (· < ·) ∧ (∀ w, w ∈ l.foldl putI ks ↔ w ∈ ks ∨ w ∈ l) ∧ (l.foldl putI ks).length ≤ ks.length + l.length
  | [], ks, h => ⟨h, by simp, by simp⟩
  | x :: l, ks, h => by
    have := foldP l (putI ks x) (putI_asc h)
    have hl := putI_len ks x
    refine ⟨this.1, fun w => ?_, ?_⟩
    · rw [List.foldl_cons, this.2.1 w, putI_mem, List.mem_cons]; grind
    · simp only [List.foldl_cons, List.length_cons]; omega
theorem sP_len (a b : List Int) (p : Nat) : (sP a b p).length ≤ p := by
  have h1 := (foldP ((a.take p).filter (inB b)) [] List.Pairwise.nil).2.2
  have h2 := List.length_filter_le (inB b) (a.take p)
  simp only [sP]
  simp at h1 h2 ⊢; omega
theorem sP_all (a b : List Int) : (sP a b a.length).length = mShared a b := by
  have h1 := foldP (a.filter (inB b)) [] List.Pairwise.nil
  have e : sP a b a.length = (a.filter (inB b)).foldl putI [] := by simp [sP]
  rw [e, mShared, List.countP_eq_length_filter]
  refine List.Perm.length_eq ((List.perm_ext_iff_of_nodup ?_ ((setI_nodup a).filter _)).2 fun w => ?_)
  · exact h1.1.imp fun h => by omega
  · rw [h1.2.1 w, List.mem_filter, List.mem_filter, setI_mem]; simp
/-- loop.example/g03007/spec.SharedHints -/
noncomputable def c76 : Con := mkCon 76 false (α := (List Int) × (List Int)) (fun x => (fun (a : List Int) (b : List Int) => [encLI a, encLI b]) x.1 x.2) (fun _ => []) (fun x => (fun (a : List Int) (b : List Int) => a.length ≤ 1073741823 ∧ b.length ≤ 1073741823) x.1 x.2) (fun x => (fun (a : List Int) (b : List Int) => (dI (mShared a b) : D)) x.1 x.2) (fun x => (fun (a : List Int) (b : List Int) => []) x.1 x.2)
@[simp] theorem c76_f : c76.f = 76 := rfl
@[simp] theorem c76_own : c76.own = false := rfl
theorem c76_inj : ∀ u_ v_ : (List Int) × (List Int), ((fun x => (fun (a : List Int) (b : List Int) => [encLI a, encLI b]) x.1 x.2) u_).map nz = ((fun x => (fun (a : List Int) (b : List Int) => [encLI a, encLI b]) x.1 x.2) v_).map nz → u_ = v_ := by
  intro u_ v_ h
  obtain ⟨a, b⟩ := u_
  obtain ⟨a', b'⟩ := v_
  simp [nz_lit, nz1_lit, nz_agg, nz_sl, nz1_sl, encLI] at h
  first | (simp [h]; done) | (obtain ⟨⟩ := h; simp_all; done) | simp_all
@[simp] theorem c76_fn (a : List Int) (b : List Int) : c76.fn [.sl false 1 (.lit (.int .i64 0)) (ML dI a), .sl false 1 (.lit (.int .i64 0)) (ML dI b)] [] = some ((fun (a : List Int) (b : List Int) => a.length ≤ 1073741823 ∧ b.length ≤ 1073741823) a b, (fun (a : List Int) (b : List Int) => (dI (mShared a b) : D)) a b, (fun (a : List Int) (b : List Int) => []) a b) :=
  mkCon_fn (fun x y h _ => c76_inj x y h) ((a, b) : (List Int) × (List Int)) (by simp [nz, nz1, ML_nil, encLI]) rfl
@[simp] theorem c76_fn1 (s_a : Nat) (z_a : D) (b : List Int) : c76.fn [.sl false s_a z_a [], .sl false 1 (.lit (.int .i64 0)) (ML dI b)] [] = some ((fun (a : List Int) (b : List Int) => a.length ≤ 1073741823 ∧ b.length ≤ 1073741823) [] b, (fun (a : List Int) (b : List Int) => (dI (mShared a b) : D)) [] b, (fun (a : List Int) (b : List Int) => []) [] b) :=
  mkCon_fn (fun x y h _ => c76_inj x y h) (([], b) : (List Int) × (List Int)) (by simp [nz, nz1, ML_nil, encLI]) rfl
@[simp] theorem c76_fn2 (a : List Int) (s_b : Nat) (z_b : D) : c76.fn [.sl false 1 (.lit (.int .i64 0)) (ML dI a), .sl false s_b z_b []] [] = some ((fun (a : List Int) (b : List Int) => a.length ≤ 1073741823 ∧ b.length ≤ 1073741823) a [], (fun (a : List Int) (b : List Int) => (dI (mShared a b) : D)) a [], (fun (a : List Int) (b : List Int) => []) a []) :=
  mkCon_fn (fun x y h _ => c76_inj x y h) ((a, []) : (List Int) × (List Int)) (by simp [nz, nz1, ML_nil, encLI]) rfl
@[simp] theorem c76_fn3 (s_a : Nat) (z_a : D) (s_b : Nat) (z_b : D) : c76.fn [.sl false s_a z_a [], .sl false s_b z_b []] [] = some ((fun (a : List Int) (b : List Int) => a.length ≤ 1073741823 ∧ b.length ≤ 1073741823) [] [], (fun (a : List Int) (b : List Int) => (dI (mShared a b) : D)) [] [], (fun (a : List Int) (b : List Int) => []) [] []) :=
  mkCon_fn (fun x y h _ => c76_inj x y h) (([], []) : (List Int) × (List Int)) (by simp [nz, nz1, ML_nil, encLI]) rfl
theorem c76_pc (a : List Int) (b : List Int) (hpre : a.length ≤ 1073741823 ∧ b.length ≤ 1073741823) : PCo Try.prog 76 [encLI a, encLI b] (Tab.of []) (dI (mShared a b)) (Tab.of []) := by
  refine pco_of_run [] (E := ⟨[c87, c106], [], []⟩) (m := false) (base := 0) (Env.ok_cons c87_ok (Env.ok_cons c106_ok Env.ok_nil)) G_ok mix 300 6 Try.func76 (by kernel_rfl) rfl (by kernel_rfl) (by kernel_rfl) rfl ?_
  simp [Try.f76]
  refine loop_inv (fun p : Nat => p ≤ a.length) (fun p => [(0, encLI a), (1, encLI b), (5, .own (0, 1) 1 0 (sP a b p).length), (6, dI p)]) (fun p => [((0, 1), .arr false 1 (dI 0) (ML dI (sP a b p)))]) 2 (fun p => a.length - p) 0 400 (by simp) (by simp) (by simp [sP]) ?_
  intro p hp
  simp
  have hb := sP_len a b p
  refine ⟨fun hlt => ?_, fun hge => ?_⟩
  · refine ⟨⟨hlt, by omega⟩, fun h => ⟨⟨hlt, by omega⟩, by omega, ?_⟩, fun h => ⟨by omega, ?_⟩⟩
    · exact Again.mk (p + 1) (by omega) (by simp [sP_yes hlt h]) (by first | omega | (simp; omega))
    · exact Again.mk (p + 1) (by omega) (by simp [sP_no hlt h]) (by first | omega | (simp; omega))
  · rw [show p = a.length by omega, sP_all]
theorem c76_ok : c76.ok Try.prog := mkCon_ok fun ⟨a, b⟩ hpre => c76_pc a b hpre
end Go.Proofs.Ytnghehfdclhfdaa
