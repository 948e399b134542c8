/- Contracts of the functions that the laws run. -/
import Derived.Test.Ytedjdbncmmjmmaach04b
import Derived.Test.YtedjdbncmmjmmaaEngB
import Derived.Tactics
import Derived.Tactics2
import Derived.StillTactics
import Derived.Scope
import Derived.FnLit
import Derived.RegionTactic
import Derived.LoopTactic
import Derived.WalkMore
import Derived.ScopeJumps
import Derived.OwnWalk
import Derived.Laws.Strings
import Derived.Laws.Strings2
import Derived.Test.YtedjdbncmmjmmaaEngB
namespace Go.Proofs.Ytedjdbncmmjmmaa
open Go Go.Eng
set_option linter.unusedSimpArgs false
set_option linter.unusedVariables false
set_option maxRecDepth 10000
set_option maxHeartbeats 1000000
theorem calls_of_pco {P : Program} {f : FuncId} {ds : List D} {r : Value} (h : PCo P f ds Tab.nil (.lit r) Tab.nil) (hG : ∀ g, HasG.gl g = .any) {w : World} {vs : List Value} (hr : Reps (fun _ => False) w.heap Beta.none ds vs) : Calls P f vs.toArray w fun e w' => e = .returned r ∧ Go.Eng.Grown w w' := by
  have O : Own w (Mof Beta.none (fun _ _ => False) Tab.nil) (fun _ => False) (fun _ => False) Beta.none (fun _ _ => False) Tab.nil 1 w := { F0F := fun _ h => h, Fsrc := fun _ h => h.elim, Flt := fun _ h => h.elim, keep := fun _ _ _ => rfl, size := Nat.le_refl _, os := rfl, tp := rfl, out := rfl, gen := fun _ _ h => (by cases h), own := fun _ _ h => (by cases h), fps := fun _ _ h => (by cases h), dis := fun _ _ _ _ h => (by cases h) }
  have G : GlobF (fun _ => False) w.heap := fun g => by rw [hG]; exact ⟨by simp only [Rep], trivial⟩
  refine (h.2 w _ _ _ vs O G hr).mono ?_
  rintro e w' ⟨v, F', β', γ', g', rfl, O', hβ, rv⟩
  simp only [Rep] at rv
  subst rv
  exact ⟨rfl, ⟨fun b hb => O'.keep b hb (fun h => Mof_nil h), O'.size, O'.os, O'.tp, O'.out⟩⟩
theorem grown_tr {w w1 w2 : World} (a : Go.Eng.Grown w w1) (b : Go.Eng.Grown w1 w2) : Go.Eng.Grown w w2 :=
  ⟨fun i hi => (b.old i (Nat.lt_of_lt_of_le hi a.size)).trans (a.old i hi), Nat.le_trans a.size b.size, b.os.trans a.os, b.tp.trans a.tp, b.out.trans a.out⟩
theorem kt (k : Int) (w : World) : Calls Try.prog 7 #[.int .i64 k] w fun e w' => e = .returned (.string (mKind k)) ∧ Go.Eng.Grown w w' :=
  calls_of_pco (c7_pc k) (fun g => rfl) (vs := [.int .i64 k]) (by simp only [Reps, Rep]; exact ⟨_, _, rfl, rfl, rfl⟩)
def kF (s : ByteArray) : Nat → Int
  | 0 => 0
  | m + 1 => if mKind (8 - m) = s then 8 - m else kF s m
theorem kF_yes {s : ByteArray} {m : Nat} (h : mKind (8 - (m : Int)) = s) : kF s (m + 1) = 8 - (m : Int) := by simp only [kF]; rw [if_pos h]
theorem kF_no {s : ByteArray} {m : Nat} (h : ¬ mKind (8 - (m : Int)) = s) : kF s (m + 1) = kF s m := by simp only [kF]; rw [if_neg h]
def kOf : Value → Int | .int _ q => q | _ => 0
theorem kind_walk (s : ByteArray) (w : World) : Calls Try.prog 5 #[.string s] w fun e w' => e = .returned (.int .i64 (kF s 8)) ∧ Go.Eng.Grown w w' := by
  go_enter Try.func5, Try.ntmps5
  go_wp2
  refine wp_scope_jumps 0 (fun a' w' => Go.Eng.Grown w w' ∧ ∃ (m : Nat) (u4 u5 u6 u7 u8 u9 u10 u11 u12 : Value), a' = { tmps := #[.string s, undef, .int .i64 0, .int .i64 (8 - m), u4, u5, u6, u7, u8, u9, u10, u11, u12], defers := [] } ∧ kF s 8 = kF s (m + 1) ∧ m ≤ 7) (fun a' _ => (8 - kOf (a'.tmps.getD 3 undef)).toNat) rfl ?_ ?_
  · go_wp2
    go_step3
    go_wp2_with (go_at_call 7; refine (kt _ _).mono ?_; rintro e w' ⟨rfl, hg⟩)
    · rename_i h
      simp only [Exit.jump]
      go_ret
      have e : kF s 8 = 1 := kF_yes (m := 7) h
      rw [e]
      exact ⟨rfl, hg⟩
    · rename_i h _ _
      go_step3
      exact ⟨rfl, hg, 6, _, _, _, _, _, _, _, _, _, rfl, kF_no (m := 7) h, by omega⟩
  · rintro a' w1 ⟨hw1, m, u4, u5, u6, u7, u8, u9, u10, u11, u12, rfl, hs, hm⟩
    go_wp2_with (go_at_call 7; refine (kt _ _).mono ?_; rintro e w' ⟨rfl, hg⟩)
    · rename_i h
      simp only [Exit.jump]
      go_ret
      rw [hs, kF_yes h]
      exact ⟨rfl, grown_tr hw1 hg⟩
    · rename_i h h2 _ _
      go_step3
      obtain ⟨j, rfl⟩ : ∃ j, m = j + 1 := ⟨m - 1, by omega⟩
      have e1 : (8 - ((j + 1 : Nat) : Int) + 1) = 8 - (j : Int) := by omega
      rw [e1]
      refine ⟨rfl, ⟨grown_tr hw1 hg, j, _, _, _, _, _, _, _, _, _, rfl, hs.trans (kF_no h), by omega⟩, ?_⟩
      simp [kOf]
      omega
    · rename_i h h2
      simp only [Exit.jump]
      go_ret
      have hz : m = 0 := by omega
      subst hz
      rw [hs, kF_no h]
      exact ⟨rfl, grown_tr hw1 hg⟩
/-- loop.example/g03007/impl.KindOf -/
noncomputable def c5 : Con := mkCon 5 false (α := ByteArray) (fun x => (fun (s : ByteArray) => [dS s]) x) (fun _ => []) (fun x => (fun (s : ByteArray) => True) x) (fun x => (fun (s : ByteArray) => (dI (kF s 8) : D)) x) (fun x => (fun (s : ByteArray) => []) x)
@[simp] theorem c5_f : c5.f = 5 := rfl
@[simp] theorem c5_own : c5.own = false := rfl
theorem c5_inj : ∀ u_ v_ : ByteArray, ((fun x => (fun (s : ByteArray) => [dS s]) x) u_).map nz = ((fun x => (fun (s : ByteArray) => [dS s]) x) v_).map nz → u_ = v_ := by
  intro u_ v_ h
  obtain s := u_
  obtain s' := v_
  simp [nz_lit, nz1_lit, nz_agg, nz_sl, nz1_sl] at h
  first | (simp [h]; done) | (obtain ⟨⟩ := h; simp_all; done) | simp_all
@[simp] theorem c5_fn (s : ByteArray) : c5.fn [.lit (.string s)] [] = some ((fun (s : ByteArray) => True) s, (fun (s : ByteArray) => (dI (kF s 8) : D)) s, (fun (s : ByteArray) => []) s) :=
  mkCon_fn (fun x y h _ => c5_inj x y h) (s : ByteArray) (by simp [nz, nz1, ML_nil]) rfl
theorem c5_pc (s : ByteArray) : PCo Try.prog 5 [dS s] (Tab.of []) (dI (kF s 8)) (Tab.of []) := by
  refine pco_lit (enters_of_func Try.func5 (by kernel_rfl) (by kernel_rfl)) rfl fun w F vs G hr => ?_
  simp only [Reps, Rep] at hr
  obtain ⟨v, vs', rfl, rfl, rfl⟩ := hr
  exact kind_walk s w
theorem c5_ok : c5.ok Try.prog := mkCon_ok fun s hpre => c5_pc s
/-- loop.example/g03007/spec.KindOf -/
noncomputable def c4 : Con := mkCon 4 false (α := ByteArray) (fun x => (fun (s : ByteArray) => [dS s]) x) (fun _ => []) (fun x => (fun (s : ByteArray) => True) x) (fun x => (fun (s : ByteArray) => (dI (kF s 8) : D)) x) (fun x => (fun (s : ByteArray) => []) x)
@[simp] theorem c4_f : c4.f = 4 := rfl
@[simp] theorem c4_own : c4.own = false := rfl
theorem c4_inj : ∀ u_ v_ : ByteArray, ((fun x => (fun (s : ByteArray) => [dS s]) x) u_).map nz = ((fun x => (fun (s : ByteArray) => [dS s]) x) v_).map nz → u_ = v_ := by
  intro u_ v_ h
  obtain s := u_
  obtain s' := v_
  simp [nz_lit, nz1_lit, nz_agg, nz_sl, nz1_sl] at h
  first | (simp [h]; done) | (obtain ⟨⟩ := h; simp_all; done) | simp_all
@[simp] theorem c4_fn (s : ByteArray) : c4.fn [.lit (.string s)] [] = some ((fun (s : ByteArray) => True) s, (fun (s : ByteArray) => (dI (kF s 8) : D)) s, (fun (s : ByteArray) => []) s) :=
  mkCon_fn (fun x y h _ => c4_inj x y h) (s : ByteArray) (by simp [nz, nz1, ML_nil]) rfl
theorem c4_pc (s : ByteArray) : PCo Try.prog 4 [dS s] (Tab.of []) (dI (kF s 8)) (Tab.of []) := by
  refine pco_of_run [] (E := ⟨[c6], []⟩) (m := false) (base := 0) (Env.ok_cons c6_ok Env.ok_nil) G_ok mix 300 6 Try.func4 (by kernel_rfl) rfl (by kernel_rfl) (by kernel_rfl) rfl ?_
  simp [Try.f4]
  refine loop_inv (fun p : Nat => p ≤ 8 ∧ kF s 8 = kF s (8 - p)) (fun p => [(0, dS s), (3, dI ((p : Int) + 1))]) (fun _ => []) 1 (fun p => 8 - p) 0 400 (by simp) (by simp) (by simp) ?_
  intro p ⟨hp, hi⟩
  simp
  refine ⟨fun hlt => ⟨fun h => ?_, fun h => ?_⟩, fun hge => ?_⟩
  · obtain ⟨m, hm⟩ : ∃ m, 8 - p = m + 1 := ⟨7 - p, by omega⟩
    have e : (p : Int) + 1 = 8 - (m : Int) := by omega
    rw [e] at h ⊢
    rw [hi, hm, kF_yes h]
  · obtain ⟨m, hm⟩ : ∃ m, 8 - p = m + 1 := ⟨7 - p, by omega⟩
    have e : (p : Int) + 1 = 8 - (m : Int) := by omega
    rw [e] at h
    have hk : kF s 8 = kF s (8 - (p + 1)) := by rw [hi, hm, kF_no h]; congr 1; omega
    refine ⟨by omega, Again.mk (p + 1) ⟨by omega, hk⟩ (by simp) (by first | omega | (simp; omega))⟩
  · have : p = 8 := by omega
    subst this
    rw [hi]; rfl
theorem c4_ok : c4.ok Try.prog := mkCon_ok fun s hpre => c4_pc s
/-- loop.example/g03007/laws.FnExactKindOf -/
theorem law3 (s : ByteArray) (ws : s.size ≤ maxLen) : PCo Try.prog 3 [dS s] (Tab.of []) (dB true) (Tab.of []) := by
  refine pco_of_run [] (E := ⟨[c4, c5], []⟩) (m := false) (base := 0) (Env.ok_cons c4_ok (Env.ok_cons c5_ok Env.ok_nil)) G_ok mix 400 6 Try.func3 (by kernel_rfl) rfl (by kernel_rfl) (by kernel_rfl) rfl ?_
  simp (config := {maxSteps := 3000000}) [Try.f3]
  repeat' (first | omega | assumption | refine And.intro ?_ ?_ | intro _)
  all_goals first | omega | grind | (split at * <;> omega)
theorem law3_pc (D0 : D) (h0 : Sh G 9 9 D0) : PC Try.prog 3 [D0] (dB true) [] := by
  obtain ⟨s, rfl, ws⟩ := sh9 (n := 8) h0
  exact law3 s ws

end Go.Proofs.Ytedjdbncmmjmmaa
