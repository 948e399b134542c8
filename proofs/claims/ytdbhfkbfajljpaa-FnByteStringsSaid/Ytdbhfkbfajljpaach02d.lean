/- Contracts of the functions that the laws run. -/
import Derived.Test.Ytdbhfkbfajljpaach02r
import Derived.Test.YtdbhfkbfajljpaaEngB
namespace Go.Proofs.Ytdbhfkbfajljpaa
open Go Go.Eng
set_option linter.unusedSimpArgs false
set_option linter.unusedVariables false
set_option maxRecDepth 10000
set_option maxHeartbeats 1000000
noncomputable def decF (b : List Int) : Nat → Int → Option (List Int × Int)
  | 0, a => some ([], a)
  | k + 1, a => match mRead b a with
    | none => none
    | some (x, nx) => (decF b k nx).map fun r => (x :: r.1, r.2)
noncomputable def mDecI (b : List Int) (a n : Int) : Option (List Int × Int) := if mIn n 0 100 && mIn a 0 b.length then decF b n.toNat a else none
def preA (acc : List Int) (o : Option (List Int × Int)) : Option (List Int × Int) := o.map fun r => (acc ++ r.1, r.2)
theorem decF_no {b : List Int} {k : Nat} {a : Int} (h : mRead b a = none) : decF b (k + 1) a = none := by rw [decF, h]
theorem decF_yes {b : List Int} {k : Nat} {a x nx : Int} {acc : List Int} (h : mRead b a = some (x, nx)) : preA acc (decF b (k + 1) a) = preA (acc ++ [x]) (decF b k nx) := by
  rw [decF, h]; simp only [preA, Option.map_map]
  congr 1; funext r; simp
theorem decF_len {b : List Int} : ∀ (k : Nat) (a : Int) (r : List Int × Int), decF b k a = some r → r.1.length = k
  | 0, a, r, h => by simp only [decF, Option.some.injEq] at h; subst h; rfl
  | k + 1, a, r, h => by
    rw [decF] at h
    split at h
    · cases h
    · rename_i x nx _
      cases h2 : decF b k nx with
      | none => rw [h2] at h; cases h
      | some r2 =>
        rw [h2] at h; simp only [Option.map_some, Option.some.injEq] at h
        subst h; simp [decF_len k nx r2 h2]
theorem mDecI_len {b : List Int} {a n : Int} : ((mDecI b a n).getD ([], 0)).1.length ≤ 100 := by
  cases h : mDecI b a n with
  | none => simp
  | some r =>
    simp only [mDecI] at h
    split at h
    · rename_i hc
      rw [Bool.and_eq_true] at hc
      have := mIn_iff.1 hc.1
      have h2 := decF_len _ _ _ h
      simp [h2]; omega
    · cases h
/-- loop.example/g03007/impl.DecodeInts -/
noncomputable def c18 : Con := mkCon 18 false (α := (List Int) × Int × Int) (fun x => (fun (b : List Int) (a : Int) (n : Int) => [encLU b, dI a, dI n]) x.1 x.2.1 x.2.2) (fun _ => []) (fun x => (fun (b : List Int) (a : Int) (n : Int) => b.length ≤ 1073741823 ∧ ∀ x ∈ b, 0 ≤ x ∧ x ≤ 255) x.1 x.2.1 x.2.2) (fun x => (fun (b : List Int) (a : Int) (n : Int) => (.tup [.own (0, 1) 1 0 ((mDecI b a n).getD ([], 0)).1.length, dI ((mDecI b a n).getD ([], 0)).2, dB (mDecI b a n).isSome] : D)) x.1 x.2.1 x.2.2) (fun x => (fun (b : List Int) (a : Int) (n : Int) => [((0, 1), .arr false 1 (dI 0) (ML dI ((mDecI b a n).getD ([], 0)).1))]) x.1 x.2.1 x.2.2)
@[simp] theorem c18_f : c18.f = 18 := rfl
@[simp] theorem c18_own : c18.own = false := rfl
theorem c18_inj : ∀ u_ v_ : (List Int) × Int × Int, ((fun x => (fun (b : List Int) (a : Int) (n : Int) => [encLU b, dI a, dI n]) x.1 x.2.1 x.2.2) u_).map nz = ((fun x => (fun (b : List Int) (a : Int) (n : Int) => [encLU b, dI a, dI n]) x.1 x.2.1 x.2.2) v_).map nz → u_ = v_ := by
  intro u_ v_ h
  obtain ⟨b, a, n⟩ := u_
  obtain ⟨b', a', n'⟩ := v_
  simp [nz_lit, nz1_lit, nz_agg, nz_sl, nz1_sl, encLU] at h
  first | (simp [h]; done) | (obtain ⟨⟩ := h; simp_all; done) | simp_all
@[simp] theorem c18_fn (b : List Int) (a : Int) (n : Int) : c18.fn [.sl false 1 (.lit (.int .u8 0)) (ML dU b), .lit (.int .i64 a), .lit (.int .i64 n)] [] = some ((fun (b : List Int) (a : Int) (n : Int) => b.length ≤ 1073741823 ∧ ∀ x ∈ b, 0 ≤ x ∧ x ≤ 255) b a n, (fun (b : List Int) (a : Int) (n : Int) => (.tup [.own (0, 1) 1 0 ((mDecI b a n).getD ([], 0)).1.length, dI ((mDecI b a n).getD ([], 0)).2, dB (mDecI b a n).isSome] : D)) b a n, (fun (b : List Int) (a : Int) (n : Int) => [((0, 1), .arr false 1 (dI 0) (ML dI ((mDecI b a n).getD ([], 0)).1))]) b a n) :=
  mkCon_fn (fun x y h _ => c18_inj x y h) ((b, a, n) : (List Int) × Int × Int) (by simp [nz, nz1, ML_nil, encLU]) rfl
@[simp] theorem c18_fn1 (s_b : Nat) (z_b : D) (a : Int) (n : Int) : c18.fn [.sl false s_b z_b [], .lit (.int .i64 a), .lit (.int .i64 n)] [] = some ((fun (b : List Int) (a : Int) (n : Int) => b.length ≤ 1073741823 ∧ ∀ x ∈ b, 0 ≤ x ∧ x ≤ 255) [] a n, (fun (b : List Int) (a : Int) (n : Int) => (.tup [.own (0, 1) 1 0 ((mDecI b a n).getD ([], 0)).1.length, dI ((mDecI b a n).getD ([], 0)).2, dB (mDecI b a n).isSome] : D)) [] a n, (fun (b : List Int) (a : Int) (n : Int) => [((0, 1), .arr false 1 (dI 0) (ML dI ((mDecI b a n).getD ([], 0)).1))]) [] a n) :=
  mkCon_fn (fun x y h _ => c18_inj x y h) (([], a, n) : (List Int) × Int × Int) (by simp [nz, nz1, ML_nil, encLU]) rfl
theorem c18_pc (b : List Int) (a : Int) (n : Int) (hpre : b.length ≤ 1073741823 ∧ ∀ x ∈ b, 0 ≤ x ∧ x ≤ 255) : PCo Try.prog 18 [encLU b, dI a, dI n] (Tab.of []) (.tup [.own (0, 1) 1 0 ((mDecI b a n).getD ([], 0)).1.length, dI ((mDecI b a n).getD ([], 0)).2, dB (mDecI b a n).isSome]) (Tab.of [((0, 1), .arr false 1 (dI 0) (ML dI ((mDecI b a n).getD ([], 0)).1))]) := by
  refine pco_of_run [] (E := ⟨[c9, c36], [], []⟩) (m := false) (base := 0) (Env.ok_cons c9_ok (Env.ok_cons c36_ok Env.ok_nil)) G_ok mix 300 6 Try.func18 (by kernel_rfl) rfl (by kernel_rfl) (by kernel_rfl) rfl ?_
  obtain ⟨hp, hx⟩ := hpre
  by_cases h : (mIn n 0 100 && mIn a 0 b.length) = true
  · have hm : mDecI b a n = decF b n.toNat a := by rw [mDecI, if_pos h]
    rw [Bool.and_eq_true] at h
    have hn := mIn_iff.1 h.1
    simp [Try.f18, h.1, h.2]
    refine ⟨by omega, ?_⟩
    refine loop_inv (fun q : Nat × List Int × Int => (q.1 : Int) ≤ n ∧ q.2.1.length = q.1 ∧ mDecI b a n = preA q.2.1 (decF b (n.toNat - q.1) q.2.2)) (fun q => [(0, encLU b), (1, dI q.2.2), (9, .own (0, 1) 1 0 n.toNat), (27, dI n), (28, dI q.1)]) (fun q => [((0, 1), .arr false 1 (dI 0) (ML dI (q.2.1 ++ List.replicate (n.toNat - q.1) 0)))]) 2 (fun q => n.toNat - q.1) (0, [], a) 400 (by simp) (by simp [hm, preA]; omega) (by simp) ?_
    intro ⟨i, acc, at_⟩ ⟨hi, hl, he⟩
    simp only at hi hl he
    subst hl
    cases hr : mRead b at_ with
    | none =>
      simp [hr]
      refine ⟨fun hlt => ⟨⟨by omega, hx⟩, ?_⟩, fun hge => ?_⟩
      · obtain ⟨k, hk⟩ : ∃ k, n.toNat - acc.length = k + 1 := ⟨n.toNat - acc.length - 1, by omega⟩
        rw [hk, decF_no hr] at he
        simp [he, preA]
      · have hk : n.toNat - acc.length = 0 := by omega
        rw [hk, decF] at he
        simp [he, preA, hk]
        omega
    | some r =>
      obtain ⟨x, nx⟩ := r
      simp [hr]
      refine ⟨fun hlt => ?_, fun hge => ?_⟩
      · obtain ⟨k, hk⟩ : ∃ k, n.toNat - acc.length = k + 1 := ⟨n.toNat - acc.length - 1, by omega⟩
        have hk2 : n.toNat - (acc.length + 1) = k := by omega
        rw [hk, decF_yes hr] at he
        have hset : (List.replicate (n.toNat - acc.length) (0 : Int)).set 0 x = x :: List.replicate k 0 := by rw [hk, List.replicate_succ, List.set_cons_zero]
        repeat' (first | exact hx | omega | refine And.intro ?_ ?_ | intro _)
        exact Again.mk (acc.length + 1, acc ++ [x], nx) ⟨by simp; omega, by simp, by simp only [hk2]; exact he⟩ (by simp [hset, hk2]) (by simp; omega)
      · have hk : n.toNat - acc.length = 0 := by omega
        rw [hk, decF] at he
        simp [he, preA, hk]
        omega
  · have hm : mDecI b a n = none := by rw [mDecI, if_neg h]
    simp [Try.f18, hm]
    exact fun h1 h2 => absurd (by rw [h1, h2]; rfl) h
theorem c18_ok : c18.ok Try.prog := mkCon_ok fun ⟨b, a, n⟩ hpre => c18_pc b a n hpre

end Go.Proofs.Ytdbhfkbfajljpaa
