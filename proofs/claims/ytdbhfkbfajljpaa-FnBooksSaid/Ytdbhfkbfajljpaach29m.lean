/- Contracts of the functions that the laws run. -/
import Derived.Test.Ytdbhfkbfajljpaach29k
import Derived.Test.YtdbhfkbfajljpaaEngB
namespace Go.Proofs.Ytdbhfkbfajljpaa
open Go Go.Eng
set_option linter.unusedSimpArgs false
set_option linter.unusedVariables false
set_option maxRecDepth 10000
set_option maxHeartbeats 1000000
def payAll (payer at_ : Int) : List TEntry → List TShare → Option (List TEntry)
  | acc, [] => some acc
  | acc, s :: r => if s.Cents = 0 then payAll payer at_ acc r else if mAreEntries (acc ++ [⟨payer, s.Who, s.Cents, at_⟩]) then payAll payer at_ (acc ++ [⟨payer, s.Who, s.Cents, at_⟩]) r else none
theorem payAll_at {payer at_ : Int} {acc : List TEntry} {l : List TShare} {p : Nat} (h : p < l.length) : payAll payer at_ acc (l.drop p) = if (l[p]?.getD default).Cents = 0 then payAll payer at_ acc (l.drop (p + 1)) else if mAreEntries (acc ++ [⟨payer, (l[p]?.getD default).Who, (l[p]?.getD default).Cents, at_⟩]) then payAll payer at_ (acc ++ [⟨payer, (l[p]?.getD default).Who, (l[p]?.getD default).Cents, at_⟩]) (l.drop (p + 1)) else none := by
  rw [drop_at (d := default) h, payAll]
theorem payAll_end {payer at_ : Int} {acc : List TEntry} {l : List TShare} {p : Nat} (h : l.length ≤ p) : payAll payer at_ acc (l.drop p) = some acc := by
  rw [List.drop_eq_nil_of_le h, payAll]
theorem payAll_len {payer at_ : Int} : ∀ {l : List TShare} {acc r : List TEntry}, payAll payer at_ acc l = some r → r.length ≤ acc.length + l.length
  | [], acc, r, h => by simp only [payAll, Option.some.injEq] at h; subst h; simp
  | s :: l, acc, r, h => by
    simp only [payAll] at h
    split at h
    · have := payAll_len h; simp; omega
    · split at h
      · have := payAll_len h; simp at this ⊢; omega
      · cases h
def mPay (l : List TEntry) (payer : Int) (s : List TShare) (at_ : Int) : List TEntry := (payAll payer at_ l s).getD l
theorem mPay_len (l : List TEntry) (payer : Int) (s : List TShare) (at_ : Int) : (mPay l payer s at_).length ≤ l.length + s.length := by
  simp only [mPay]
  cases h : payAll payer at_ l s with
  | none => simp
  | some r => simpa using payAll_len h
/-- loop.example/g03007/impl.PayShares -/
noncomputable def c21 : Con := mkCon 21 false (α := (List TEntry) × Int × (List TShare) × Int) (fun x => (fun (l : List TEntry) (payer : Int) (s : List TShare) (at_ : Int) => [encLTEntry l, dI payer, encLTShare s, dI at_]) x.1 x.2.1 x.2.2.1 x.2.2.2) (fun _ => []) (fun x => (fun (l : List TEntry) (payer : Int) (s : List TShare) (at_ : Int) => l.length ≤ 268435456 ∧ s.length ≤ 268435456) x.1 x.2.1 x.2.2.1 x.2.2.2) (fun x => (fun (l : List TEntry) (payer : Int) (s : List TShare) (at_ : Int) => (.tup [.own (0, 1) 4 0 (mPay l payer s at_).length, dB (payAll payer at_ l s).isSome] : D)) x.1 x.2.1 x.2.2.1 x.2.2.2) (fun x => (fun (l : List TEntry) (payer : Int) (s : List TShare) (at_ : Int) => [((0, 1), .arr false 4 yTEntry (ML encTEntry (mPay l payer s at_)))]) x.1 x.2.1 x.2.2.1 x.2.2.2)
@[simp] theorem c21_f : c21.f = 21 := rfl
@[simp] theorem c21_own : c21.own = false := rfl
theorem c21_inj : ∀ u_ v_ : (List TEntry) × Int × (List TShare) × Int, ((fun x => (fun (l : List TEntry) (payer : Int) (s : List TShare) (at_ : Int) => [encLTEntry l, dI payer, encLTShare s, dI at_]) x.1 x.2.1 x.2.2.1 x.2.2.2) u_).map nz = ((fun x => (fun (l : List TEntry) (payer : Int) (s : List TShare) (at_ : Int) => [encLTEntry l, dI payer, encLTShare s, dI at_]) x.1 x.2.1 x.2.2.1 x.2.2.2) v_).map nz → u_ = v_ := by
  intro u_ v_ h
  obtain ⟨l, payer, s, at_⟩ := u_
  obtain ⟨l', payer', s', at_'⟩ := v_
  simp [nz_lit, nz1_lit, nz_agg, nz_sl, nz1_sl, encLTEntry, encLTShare] at h
  first | (simp [h]; done) | (obtain ⟨⟩ := h; simp_all; done) | simp_all
@[simp] theorem c21_fn (l : List TEntry) (payer : Int) (s : List TShare) (at_ : Int) : c21.fn [.sl false 4 yTEntry (ML encTEntry l), .lit (.int .i64 payer), .sl false 2 yTShare (ML encTShare s), .lit (.int .i64 at_)] [] = some ((fun (l : List TEntry) (payer : Int) (s : List TShare) (at_ : Int) => l.length ≤ 268435456 ∧ s.length ≤ 268435456) l payer s at_, (fun (l : List TEntry) (payer : Int) (s : List TShare) (at_ : Int) => (.tup [.own (0, 1) 4 0 (mPay l payer s at_).length, dB (payAll payer at_ l s).isSome] : D)) l payer s at_, (fun (l : List TEntry) (payer : Int) (s : List TShare) (at_ : Int) => [((0, 1), .arr false 4 yTEntry (ML encTEntry (mPay l payer s at_)))]) l payer s at_) :=
  mkCon_fn (fun x y h _ => c21_inj x y h) ((l, payer, s, at_) : (List TEntry) × Int × (List TShare) × Int) (by simp [nz, nz1, ML_nil, encLTEntry, encLTShare]) rfl
@[simp] theorem c21_fn1 (s_l : Nat) (z_l : D) (payer : Int) (s : List TShare) (at_ : Int) : c21.fn [.sl false s_l z_l [], .lit (.int .i64 payer), .sl false 2 yTShare (ML encTShare s), .lit (.int .i64 at_)] [] = some ((fun (l : List TEntry) (payer : Int) (s : List TShare) (at_ : Int) => l.length ≤ 268435456 ∧ s.length ≤ 268435456) [] payer s at_, (fun (l : List TEntry) (payer : Int) (s : List TShare) (at_ : Int) => (.tup [.own (0, 1) 4 0 (mPay l payer s at_).length, dB (payAll payer at_ l s).isSome] : D)) [] payer s at_, (fun (l : List TEntry) (payer : Int) (s : List TShare) (at_ : Int) => [((0, 1), .arr false 4 yTEntry (ML encTEntry (mPay l payer s at_)))]) [] payer s at_) :=
  mkCon_fn (fun x y h _ => c21_inj x y h) (([], payer, s, at_) : (List TEntry) × Int × (List TShare) × Int) (by simp [nz, nz1, ML_nil, encLTEntry, encLTShare]) rfl
@[simp] theorem c21_fn2 (l : List TEntry) (payer : Int) (s_s : Nat) (z_s : D) (at_ : Int) : c21.fn [.sl false 4 yTEntry (ML encTEntry l), .lit (.int .i64 payer), .sl false s_s z_s [], .lit (.int .i64 at_)] [] = some ((fun (l : List TEntry) (payer : Int) (s : List TShare) (at_ : Int) => l.length ≤ 268435456 ∧ s.length ≤ 268435456) l payer [] at_, (fun (l : List TEntry) (payer : Int) (s : List TShare) (at_ : Int) => (.tup [.own (0, 1) 4 0 (mPay l payer s at_).length, dB (payAll payer at_ l s).isSome] : D)) l payer [] at_, (fun (l : List TEntry) (payer : Int) (s : List TShare) (at_ : Int) => [((0, 1), .arr false 4 yTEntry (ML encTEntry (mPay l payer s at_)))]) l payer [] at_) :=
  mkCon_fn (fun x y h _ => c21_inj x y h) ((l, payer, [], at_) : (List TEntry) × Int × (List TShare) × Int) (by simp [nz, nz1, ML_nil, encLTEntry, encLTShare]) rfl
@[simp] theorem c21_fn3 (s_l : Nat) (z_l : D) (payer : Int) (s_s : Nat) (z_s : D) (at_ : Int) : c21.fn [.sl false s_l z_l [], .lit (.int .i64 payer), .sl false s_s z_s [], .lit (.int .i64 at_)] [] = some ((fun (l : List TEntry) (payer : Int) (s : List TShare) (at_ : Int) => l.length ≤ 268435456 ∧ s.length ≤ 268435456) [] payer [] at_, (fun (l : List TEntry) (payer : Int) (s : List TShare) (at_ : Int) => (.tup [.own (0, 1) 4 0 (mPay l payer s at_).length, dB (payAll payer at_ l s).isSome] : D)) [] payer [] at_, (fun (l : List TEntry) (payer : Int) (s : List TShare) (at_ : Int) => [((0, 1), .arr false 4 yTEntry (ML encTEntry (mPay l payer s at_)))]) [] payer [] at_) :=
  mkCon_fn (fun x y h _ => c21_inj x y h) (([], payer, [], at_) : (List TEntry) × Int × (List TShare) × Int) (by simp [nz, nz1, ML_nil, encLTEntry, encLTShare]) rfl
theorem c21_pc (l : List TEntry) (payer : Int) (s : List TShare) (at_ : Int) (hpre : l.length ≤ 268435456 ∧ s.length ≤ 268435456) : PCo Try.prog 21 [encLTEntry l, dI payer, encLTShare s, dI at_] (Tab.of []) (.tup [.own (0, 1) 4 0 (mPay l payer s at_).length, dB (payAll payer at_ l s).isSome]) (Tab.of [((0, 1), .arr false 4 yTEntry (ML encTEntry (mPay l payer s at_)))]) := by
  refine pco_of_run [] (E := ⟨[c29, c44], [], []⟩) (m := false) (base := 0) (Env.ok_cons c29_ok (Env.ok_cons c44_ok Env.ok_nil)) G_ok mix 300 6 Try.func21 (by kernel_rfl) rfl (by kernel_rfl) (by kernel_rfl) rfl ?_
  simp [Try.f21]
  refine ⟨by omega, ?_⟩
  refine loop_inv (fun q : Nat × List TEntry => q.1 ≤ s.length ∧ payAll payer at_ l s = payAll payer at_ q.2 (s.drop q.1) ∧ q.2.length ≤ l.length + q.1) (fun q => [(0, encLTEntry l), (1, dI payer), (3, dI at_), (10, .own (0, 1) 4 0 q.2.length), (17, encLTShare s), (18, dI s.length), (19, dI q.1)]) (fun q => [((0, 1), .arr false 4 yTEntry (ML encTEntry q.2))]) 2 (fun q => s.length - q.1) (0, l) 400 (by simp) (by simp) (by simp) ?_
  intro ⟨p, acc⟩ ⟨hp, hi, hlen⟩
  simp at hp hi hlen ⊢
  refine ⟨fun hlt => ?_, fun hge => ?_⟩
  · rw [payAll_at hlt] at hi
    by_cases hz : (s[p]?.getD default).Cents = 0
    · rw [if_pos hz] at hi
      simp [hz]
      repeat' (first | omega | refine And.intro ?_ ?_ | intro _)
      all_goals exact Again.mk (p + 1, acc) ⟨by simp; omega, hi, by simp; omega⟩ (by simp) (by first | omega | (simp; omega))
    · rw [if_neg hz] at hi
      have hml := mAddEntry_len acc ⟨payer, (s[p]?.getD default).Who, (s[p]?.getD default).Cents, at_⟩
      cases hm : mAreEntries (acc ++ [⟨payer, (s[p]?.getD default).Who, (s[p]?.getD default).Cents, at_⟩]) with
      | true =>
        rw [if_pos hm] at hi
        have hy := mAddEntry_yes hm
        simp [hz, hm, hy]
        repeat' (first | omega | refine And.intro ?_ ?_ | intro _)
        all_goals exact Again.mk (p + 1, acc ++ [⟨payer, (s[p]?.getD default).Who, (s[p]?.getD default).Cents, at_⟩]) ⟨by simp; omega, hi, by simp; omega⟩ (by simp) (by first | omega | (simp; omega))
      | false =>
        rw [if_neg (by simp [hm])] at hi
        have hmp : mPay l payer s at_ = l := by simp [mPay, hi]
        simp [hz, hm, hi, hmp]
        omega
  · rw [payAll_end hge] at hi
    have hmp : mPay l payer s at_ = acc := by simp [mPay, hi]
    simp [hi, hmp]
theorem c21_ok : c21.ok Try.prog := mkCon_ok fun ⟨l, payer, s, at_⟩ hpre => c21_pc l payer s at_ hpre

end Go.Proofs.Ytdbhfkbfajljpaa
