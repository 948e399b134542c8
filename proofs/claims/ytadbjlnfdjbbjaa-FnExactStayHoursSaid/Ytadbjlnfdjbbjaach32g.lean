/- Contracts of the functions that the laws run. -/
import Derived.Test.Ytadbjlnfdjbbjaach16k
import Derived.Test.Ytadbjlnfdjbbjaach32
import Derived.Test.YtadbjlnfdjbbjaaEngB
namespace Go.Proofs.Ytadbjlnfdjbbjaa
open Go Go.Eng
set_option linter.unusedSimpArgs false
set_option linter.unusedVariables false
set_option maxRecDepth 10000
set_option maxHeartbeats 1000000
def mEnd (r : List THand) : ByteArray := match r with | [] => ⟨#[45]⟩ | x :: _ => mHolder x.Holder
/-- loop.example/g03007/impl.EndOf -/
noncomputable def c90 : Con := mkCon 90 false (α := (List THand) × Int) (fun x => (fun (l : List THand) (k : Int) => [encLTHand l, dI k]) x.1 x.2) (fun _ => []) (fun x => (fun (l : List THand) (k : Int) => l.length ≤ 1073741823) x.1 x.2) (fun x => (fun (l : List THand) (k : Int) => (dS (mEnd (l.filter (thH k)).reverse) : D)) x.1 x.2) (fun x => (fun (l : List THand) (k : Int) => []) x.1 x.2)
@[simp] theorem c90_f : c90.f = 90 := rfl
@[simp] theorem c90_own : c90.own = false := rfl
theorem c90_inj : ∀ u_ v_ : (List THand) × Int, ((fun x => (fun (l : List THand) (k : Int) => [encLTHand l, dI k]) x.1 x.2) u_).map nz = ((fun x => (fun (l : List THand) (k : Int) => [encLTHand l, dI k]) x.1 x.2) v_).map nz → u_ = v_ := by
  intro u_ v_ h
  obtain ⟨l, k⟩ := u_
  obtain ⟨l', k'⟩ := v_
  simp [nz_lit, nz1_lit, nz_agg, nz_sl, nz1_sl, encLTHand] at h
  first | (simp [h]; done) | (obtain ⟨⟩ := h; simp_all; done) | simp_all
@[simp] theorem c90_fn (l : List THand) (k : Int) : c90.fn [.sl false 5 yTHand (ML encTHand l), .lit (.int .i64 k)] [] = some ((fun (l : List THand) (k : Int) => l.length ≤ 1073741823) l k, (fun (l : List THand) (k : Int) => (dS (mEnd (l.filter (thH k)).reverse) : D)) l k, (fun (l : List THand) (k : Int) => []) l k) :=
  mkCon_fn (fun x y h _ => c90_inj x y h) ((l, k) : (List THand) × Int) (by simp [nz, nz1, ML_nil, encLTHand]) rfl
@[simp] theorem c90_fn1 (s_l : Nat) (z_l : D) (k : Int) : c90.fn [.sl false s_l z_l [], .lit (.int .i64 k)] [] = some ((fun (l : List THand) (k : Int) => l.length ≤ 1073741823) [] k, (fun (l : List THand) (k : Int) => (dS (mEnd (l.filter (thH k)).reverse) : D)) [] k, (fun (l : List THand) (k : Int) => []) [] k) :=
  mkCon_fn (fun x y h _ => c90_inj x y h) (([], k) : (List THand) × Int) (by simp [nz, nz1, ML_nil, encLTHand]) rfl
theorem c90_pc (l : List THand) (k : Int) (hpre : l.length ≤ 1073741823) : PCo Try.prog 90 [encLTHand l, dI k] (Tab.of []) (dS (mEnd (l.filter (thH k)).reverse)) (Tab.of []) := by
  refine pco_of_run [] (E := ⟨[c117, c144], []⟩) (m := false) (base := 0) (Env.ok_cons c117_ok (Env.ok_cons c144_ok Env.ok_nil)) G_ok mix 300 6 Try.func90 (by kernel_rfl) rfl (by kernel_rfl) (by kernel_rfl) rfl ?_
  have hl := look_link (bkH l) k
  rw [bkH_get] at hl
  cases hr : (l.filter (thH k)).reverse with
  | nil =>
    rw [hr] at hl
    simp only [linkR_nil] at hl
    simp [Try.f90, hl, mEnd]
    omega
  | cons y t =>
    rw [hr] at hl
    simp only [linkR_cons] at hl
    simp [Try.f90, hl, mEnd]
    omega
theorem c90_ok : c90.ok Try.prog := mkCon_ok fun ⟨l, k⟩ hpre => c90_pc l k hpre
/-- loop.example/g03007/spec.EndOf -/
noncomputable def c89 : Con := mkCon 89 false (α := (List THand) × Int) (fun x => (fun (l : List THand) (k : Int) => [encLTHand l, dI k]) x.1 x.2) (fun _ => []) (fun x => (fun (l : List THand) (k : Int) => l.length ≤ 1073741823) x.1 x.2) (fun x => (fun (l : List THand) (k : Int) => (dS (mEnd (l.filter (thH k)).reverse) : D)) x.1 x.2) (fun x => (fun (l : List THand) (k : Int) => []) x.1 x.2)
@[simp] theorem c89_f : c89.f = 89 := rfl
@[simp] theorem c89_own : c89.own = false := rfl
theorem c89_inj : ∀ u_ v_ : (List THand) × Int, ((fun x => (fun (l : List THand) (k : Int) => [encLTHand l, dI k]) x.1 x.2) u_).map nz = ((fun x => (fun (l : List THand) (k : Int) => [encLTHand l, dI k]) x.1 x.2) v_).map nz → u_ = v_ := by
  intro u_ v_ h
  obtain ⟨l, k⟩ := u_
  obtain ⟨l', k'⟩ := v_
  simp [nz_lit, nz1_lit, nz_agg, nz_sl, nz1_sl, encLTHand] at h
  first | (simp [h]; done) | (obtain ⟨⟩ := h; simp_all; done) | simp_all
@[simp] theorem c89_fn (l : List THand) (k : Int) : c89.fn [.sl false 5 yTHand (ML encTHand l), .lit (.int .i64 k)] [] = some ((fun (l : List THand) (k : Int) => l.length ≤ 1073741823) l k, (fun (l : List THand) (k : Int) => (dS (mEnd (l.filter (thH k)).reverse) : D)) l k, (fun (l : List THand) (k : Int) => []) l k) :=
  mkCon_fn (fun x y h _ => c89_inj x y h) ((l, k) : (List THand) × Int) (by simp [nz, nz1, ML_nil, encLTHand]) rfl
@[simp] theorem c89_fn1 (s_l : Nat) (z_l : D) (k : Int) : c89.fn [.sl false s_l z_l [], .lit (.int .i64 k)] [] = some ((fun (l : List THand) (k : Int) => l.length ≤ 1073741823) [] k, (fun (l : List THand) (k : Int) => (dS (mEnd (l.filter (thH k)).reverse) : D)) [] k, (fun (l : List THand) (k : Int) => []) [] k) :=
  mkCon_fn (fun x y h _ => c89_inj x y h) (([], k) : (List THand) × Int) (by simp [nz, nz1, ML_nil, encLTHand]) rfl
theorem c89_pc (l : List THand) (k : Int) (hpre : l.length ≤ 1073741823) : PCo Try.prog 89 [encLTHand l, dI k] (Tab.of []) (dS (mEnd (l.filter (thH k)).reverse)) (Tab.of []) := by
  refine pco_of_run [] (E := ⟨[c56, c143], []⟩) (m := false) (base := 0) (Env.ok_cons c56_ok (Env.ok_cons c143_ok Env.ok_nil)) G_ok mix 300 6 Try.func89 (by kernel_rfl) rfl (by kernel_rfl) (by kernel_rfl) rfl ?_
  have hb := mHands_len l k
  rw [show (l.filter (thH k)).reverse = (mHands l k).reverse from rfl]
  have hlast : ∀ (h : ¬ mHands l k = []), mEnd (mHands l k).reverse = mHolder ((mHands l k)[(mHands l k).length - 1]?.getD default).Holder := fun h => by
    generalize mHands l k = o at h
    cases hr : o.reverse with
    | nil => exact absurd (List.reverse_eq_nil_iff.1 hr) h
    | cons y t =>
      have e : o = (y :: t).reverse := by rw [← hr, List.reverse_reverse]
      subst e; simp [mEnd]
  simp [Try.f89]
  refine ⟨hpre, fun h => by rw [h]; rfl, fun h => ⟨?_, (hlast h).symm⟩⟩
  have := List.length_pos_iff.2 h
  omega
theorem c89_ok : c89.ok Try.prog := mkCon_ok fun ⟨l, k⟩ hpre => c89_pc l k hpre
/-- loop.example/g03007/laws.FnExactEndOf -/
theorem law22 (l : List THand) (wl : wfLTHand l) (k : Int) (wk : inR .i64 k) : PCo Try.prog 22 [encLTHand l, dI k] (Tab.of []) (dB true) (Tab.of []) := by
  refine pco_of_run [] (E := ⟨[c44, c46, c48, c89, c90], []⟩) (m := false) (base := 0) (Env.ok_cons c44_ok (Env.ok_cons c46_ok (Env.ok_cons c48_ok (Env.ok_cons c89_ok (Env.ok_cons c90_ok Env.ok_nil))))) G_ok mix 400 6 Try.func22 (by kernel_rfl) rfl (by kernel_rfl) (by kernel_rfl) rfl ?_
  simp (config := {maxSteps := 3000000}) [Try.f22]
  have h_l : l.length ≤ maxLen := wl.1
  repeat' (first | omega | assumption | refine And.intro ?_ ?_ | intro _)
  all_goals first | omega | grind | (split at * <;> omega)
theorem law22_pc (D0 : D) (h0 : Sh G 9 44 D0) (D1 : D) (h1 : Sh G 9 3 D1) : PC Try.prog 22 [D0, D1] (dB true) [] := by
  obtain ⟨l, rfl, wl⟩ := sh44 (n := 6) h0
  obtain ⟨k, rfl, wk⟩ := sh3 (n := 8) h1
  exact law22 l wl k wk
def trav (r : List THand) : Nat → Nat
  | 0 => 0
  | p + 1 => trav r p + if 0 < p ∧ (r[p]?.getD default).Holder = 2 ∧ (r[p - 1]?.getD default).Holder = 2 then 1 else 0
theorem trav_le (r : List THand) : ∀ p, trav r p ≤ p
  | 0 => Nat.le_refl _
  | p + 1 => by have := trav_le r p; simp only [trav]; split <;> omega
def prvH (r : List THand) (p : Nat) : Int := if p = 0 then 0 else (r[p - 1]?.getD default).Holder
theorem prvH_succ (r : List THand) (p : Nat) : prvH r (p + 1) = (r[p]?.getD default).Holder := by simp [prvH]
theorem prvH_pos {r : List THand} {p : Nat} (h : 1 ≤ p) : prvH r p = (r[p - 1]?.getD default).Holder := by simp [prvH]; omega
theorem trav_yes {r : List THand} {p : Nat} (h1 : prvH r p = 2) (h2 : (r[p]?.getD default).Holder = 2) : trav r (p + 1) = trav r p + 1 := by
  have h0 : 0 < p := by
    rcases Nat.eq_zero_or_pos p with h | h
    · subst h; simp [prvH] at h1
    · exact h
  rw [prvH_pos h0] at h1
  rw [trav, if_pos ⟨h0, h2, h1⟩]
theorem trav_no {r : List THand} {p : Nat} (h : prvH r p = 2 → ¬ (r[p]?.getD default).Holder = 2) : trav r (p + 1) = trav r p := by
  rw [trav, if_neg]
  · rfl
  · rintro ⟨h0, h2, h1⟩
    exact h (by rw [prvH_pos h0]; exact h1) h2
/-- loop.example/g03007/impl.TravelCount -/
noncomputable def c94 : Con := mkCon 94 false (α := (List THand) × Int) (fun x => (fun (l : List THand) (k : Int) => [encLTHand l, dI k]) x.1 x.2) (fun _ => []) (fun x => (fun (l : List THand) (k : Int) => l.length ≤ 1073741823) x.1 x.2) (fun x => (fun (l : List THand) (k : Int) => (dI (trav (mHands l k) (mHands l k).length) : D)) x.1 x.2) (fun x => (fun (l : List THand) (k : Int) => []) x.1 x.2)
@[simp] theorem c94_f : c94.f = 94 := rfl
@[simp] theorem c94_own : c94.own = false := rfl
theorem c94_inj : ∀ u_ v_ : (List THand) × Int, ((fun x => (fun (l : List THand) (k : Int) => [encLTHand l, dI k]) x.1 x.2) u_).map nz = ((fun x => (fun (l : List THand) (k : Int) => [encLTHand l, dI k]) x.1 x.2) v_).map nz → u_ = v_ := by
  intro u_ v_ h
  obtain ⟨l, k⟩ := u_
  obtain ⟨l', k'⟩ := v_
  simp [nz_lit, nz1_lit, nz_agg, nz_sl, nz1_sl, encLTHand] at h
  first | (simp [h]; done) | (obtain ⟨⟩ := h; simp_all; done) | simp_all
@[simp] theorem c94_fn (l : List THand) (k : Int) : c94.fn [.sl false 5 yTHand (ML encTHand l), .lit (.int .i64 k)] [] = some ((fun (l : List THand) (k : Int) => l.length ≤ 1073741823) l k, (fun (l : List THand) (k : Int) => (dI (trav (mHands l k) (mHands l k).length) : D)) l k, (fun (l : List THand) (k : Int) => []) l k) :=
  mkCon_fn (fun x y h _ => c94_inj x y h) ((l, k) : (List THand) × Int) (by simp [nz, nz1, ML_nil, encLTHand]) rfl
@[simp] theorem c94_fn1 (s_l : Nat) (z_l : D) (k : Int) : c94.fn [.sl false s_l z_l [], .lit (.int .i64 k)] [] = some ((fun (l : List THand) (k : Int) => l.length ≤ 1073741823) [] k, (fun (l : List THand) (k : Int) => (dI (trav (mHands l k) (mHands l k).length) : D)) [] k, (fun (l : List THand) (k : Int) => []) [] k) :=
  mkCon_fn (fun x y h _ => c94_inj x y h) (([], k) : (List THand) × Int) (by simp [nz, nz1, ML_nil, encLTHand]) rfl
theorem c94_pc (l : List THand) (k : Int) (hpre : l.length ≤ 1073741823) : PCo Try.prog 94 [encLTHand l, dI k] (Tab.of []) (dI (trav (mHands l k) (mHands l k).length)) (Tab.of []) := by
  refine pco_of_run [] (E := ⟨[c57], []⟩) (m := false) (base := 0) (Env.ok_cons c57_ok Env.ok_nil) G_ok mix 300 6 Try.func94 (by kernel_rfl) rfl (by kernel_rfl) (by kernel_rfl) rfl ?_
  simp [Try.f94]
  have hb := mHands_len l k
  generalize mHands l k = r at hb ⊢
  refine ⟨hpre, ?_⟩
  refine loop_inv (fun p : Nat => p ≤ r.length) (fun p => [(5, dI (trav r p)), (6, dI (prvH r p)), (11, .own (0, 1) 5 0 r.length), (12, dI r.length), (13, dI p)]) (fun p => [((0, 1), .arr false 5 yTHand (ML encTHand r))]) 2 (fun p => r.length - p) 0 400 (by simp) (by simp) (by simp [trav, prvH]) ?_
  intro p hp
  simp
  have ht := trav_le r p
  refine ⟨fun hlt => ?_, fun hge => ?_⟩
  · refine ⟨hlt, fun h1 h2 => ⟨by omega, by omega, ?_⟩, fun h1 => ⟨by omega, ?_⟩⟩
    · exact Again.mk (p + 1) (by omega) (by simp [trav_yes h1 h2, prvH_succ]) (by first | omega | (simp; omega))
    · exact Again.mk (p + 1) (by omega) (by simp [trav_no h1, prvH_succ]) (by first | omega | (simp; omega))
  · have : p = r.length := by omega
    subst this; rfl
theorem c94_ok : c94.ok Try.prog := mkCon_ok fun ⟨l, k⟩ hpre => c94_pc l k hpre
/-- loop.example/g03007/spec.TravelCount -/
noncomputable def c93 : Con := mkCon 93 false (α := (List THand) × Int) (fun x => (fun (l : List THand) (k : Int) => [encLTHand l, dI k]) x.1 x.2) (fun _ => []) (fun x => (fun (l : List THand) (k : Int) => l.length ≤ 1073741823) x.1 x.2) (fun x => (fun (l : List THand) (k : Int) => (dI (trav (mHands l k) (mHands l k).length) : D)) x.1 x.2) (fun x => (fun (l : List THand) (k : Int) => []) x.1 x.2)
@[simp] theorem c93_f : c93.f = 93 := rfl
@[simp] theorem c93_own : c93.own = false := rfl
theorem c93_inj : ∀ u_ v_ : (List THand) × Int, ((fun x => (fun (l : List THand) (k : Int) => [encLTHand l, dI k]) x.1 x.2) u_).map nz = ((fun x => (fun (l : List THand) (k : Int) => [encLTHand l, dI k]) x.1 x.2) v_).map nz → u_ = v_ := by
  intro u_ v_ h
  obtain ⟨l, k⟩ := u_
  obtain ⟨l', k'⟩ := v_
  simp [nz_lit, nz1_lit, nz_agg, nz_sl, nz1_sl, encLTHand] at h
  first | (simp [h]; done) | (obtain ⟨⟩ := h; simp_all; done) | simp_all
@[simp] theorem c93_fn (l : List THand) (k : Int) : c93.fn [.sl false 5 yTHand (ML encTHand l), .lit (.int .i64 k)] [] = some ((fun (l : List THand) (k : Int) => l.length ≤ 1073741823) l k, (fun (l : List THand) (k : Int) => (dI (trav (mHands l k) (mHands l k).length) : D)) l k, (fun (l : List THand) (k : Int) => []) l k) :=
  mkCon_fn (fun x y h _ => c93_inj x y h) ((l, k) : (List THand) × Int) (by simp [nz, nz1, ML_nil, encLTHand]) rfl
@[simp] theorem c93_fn1 (s_l : Nat) (z_l : D) (k : Int) : c93.fn [.sl false s_l z_l [], .lit (.int .i64 k)] [] = some ((fun (l : List THand) (k : Int) => l.length ≤ 1073741823) [] k, (fun (l : List THand) (k : Int) => (dI (trav (mHands l k) (mHands l k).length) : D)) [] k, (fun (l : List THand) (k : Int) => []) [] k) :=
  mkCon_fn (fun x y h _ => c93_inj x y h) (([], k) : (List THand) × Int) (by simp [nz, nz1, ML_nil, encLTHand]) rfl
theorem c93_pc (l : List THand) (k : Int) (hpre : l.length ≤ 1073741823) : PCo Try.prog 93 [encLTHand l, dI k] (Tab.of []) (dI (trav (mHands l k) (mHands l k).length)) (Tab.of []) := by
  refine pco_of_run [] (E := ⟨[c56], []⟩) (m := false) (base := 0) (Env.ok_cons c56_ok Env.ok_nil) G_ok mix 300 6 Try.func93 (by kernel_rfl) rfl (by kernel_rfl) (by kernel_rfl) rfl ?_
  simp [Try.f93]
  have hb := mHands_len l k
  generalize mHands l k = r at hb ⊢
  refine ⟨hpre, ?_⟩
  refine loop_inv (fun p : Nat => 1 ≤ p ∧ (p ≤ r.length ∨ (p = 1 ∧ r.length = 0))) (fun p => [(5, dI (trav r p)), (6, .own (0, 1) 5 0 r.length), (7, dI p)]) (fun p => [((0, 1), .arr false 5 yTHand (ML encTHand r))]) 2 (fun p => r.length - p) 1 400 (by simp) ⟨Nat.le_refl _, by omega⟩ (by simp [trav]) ?_
  intro p ⟨h1, hp⟩
  simp
  have ht := trav_le r p
  have hpv := prvH_pos (r := r) h1
  refine ⟨fun hlt => ?_, fun hge => ?_⟩
  · refine ⟨⟨hlt, fun _ => by omega, fun _ => by omega, fun _ => by omega⟩, fun h3 h2 => ⟨by omega, by omega, ?_⟩, fun h3 => ⟨by omega, ?_⟩⟩
    · exact Again.mk (p + 1) ⟨by omega, by omega⟩ (by simp [trav_yes (hpv.trans h2) h3]) (by first | omega | (simp; omega))
    · exact Again.mk (p + 1) ⟨by omega, by omega⟩ (by simp [trav_no fun h4 h5 => h3 h5 (by rw [← hpv]; exact h4)]) (by first | omega | (simp; omega))
  · rcases hp with hp | ⟨hp, h0⟩
    · have : p = r.length := by omega
      rw [this]
    · subst hp; rw [h0]; simp [trav]
theorem c93_ok : c93.ok Try.prog := mkCon_ok fun ⟨l, k⟩ hpre => c93_pc l k hpre
/-- loop.example/g03007/laws.FnExactTravelCount -/
theorem law24 (l : List THand) (wl : wfLTHand l) (k : Int) (wk : inR .i64 k) : PCo Try.prog 24 [encLTHand l, dI k] (Tab.of []) (dB true) (Tab.of []) := by
  refine pco_of_run [] (E := ⟨[c44, c46, c48, c93, c94], []⟩) (m := false) (base := 0) (Env.ok_cons c44_ok (Env.ok_cons c46_ok (Env.ok_cons c48_ok (Env.ok_cons c93_ok (Env.ok_cons c94_ok Env.ok_nil))))) G_ok mix 400 6 Try.func24 (by kernel_rfl) rfl (by kernel_rfl) (by kernel_rfl) rfl ?_
  simp (config := {maxSteps := 3000000}) [Try.f24]
  have h_l : l.length ≤ maxLen := wl.1
  repeat' (first | omega | assumption | refine And.intro ?_ ?_ | intro _)
  all_goals first | omega | grind | (split at * <;> omega)
theorem law24_pc (D0 : D) (h0 : Sh G 9 44 D0) (D1 : D) (h1 : Sh G 9 3 D1) : PC Try.prog 24 [D0, D1] (dB true) [] := by
  obtain ⟨l, rfl, wl⟩ := sh44 (n := 6) h0
  obtain ⟨k, rfl, wk⟩ := sh3 (n := 8) h1
  exact law24 l wl k wk

end Go.Proofs.Ytadbjlnfdjbbjaa
