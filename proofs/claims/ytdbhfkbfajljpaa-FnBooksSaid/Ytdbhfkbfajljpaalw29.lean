/- Contracts of the functions that the laws run. -/
import Derived.Test.YtdbhfkbfajljpaaEngB
import Derived.Test.YtdbhfkbfajljpaaEngB
import Derived.Test.YtdbhfkbfajljpaaEngB
import Derived.Test.Ytdbhfkbfajljpaalw29m
import Derived.Test.Ytdbhfkbfajljpaadr29
import Derived.Test.Ytdbhfkbfajljpaalawx
import Derived.Test.YtdbhfkbfajljpaaEngB
namespace Go.Proofs.Ytdbhfkbfajljpaa
open Go Go.Eng
set_option linter.unusedSimpArgs false
set_option linter.unusedVariables false
set_option maxRecDepth 10000
set_option maxHeartbeats 1000000
/-- loop.example/g03007/laws.FnBooks -/
theorem law5 (l : List Int) (wl : wfLU l) : PCo Try.prog 5 [encLU l] (Tab.of []) (dB true) (Tab.of []) := by
  refine pco_of_run [17] (E := ⟨[c6, c20, c21f, c22f, c23, c24, c25, c26, c27, c28, c29f], [], []⟩) (m := false) (base := 0) (Env.ok_cons c6_ok (Env.ok_cons c20_ok (Env.ok_cons c21f_ok (Env.ok_cons c22f_ok (Env.ok_cons c23_ok (Env.ok_cons c24_ok (Env.ok_cons c25_ok (Env.ok_cons c26_ok (Env.ok_cons c27_ok (Env.ok_cons c28_ok (Env.ok_cons c29f_ok Env.ok_nil))))))))))) G_ok mix 400 6 Try.func5 (by kernel_rfl) rfl (by kernel_rfl) (by kernel_rfl) rfl ?_
  have hl : l.length ≤ maxLen := wl.1
  by_cases hbig : 1048576 < l.length
  · simp [Try.f5, hbig]
  · have hp : l.length ≤ 2097152 := by omega
    have b1 := v20_ok l hp
    have b2 := v28_ok l hp
    have h1 := c20_fn l
    have h2 := c28_fn l
    generalize v20 l = X at *
    generalize v28 l = Y at *
    obtain ⟨L, payer, s, at_⟩ := X
    obtain ⟨b, e⟩ := Y
    simp only at b1 b2 h1 h2
    have hml := mPay_len L payer s at_
    have hal := accL_len (mPay L payer s at_)
    have hol := mOnce_le (accL (mPay L payer s at_)) []
    have hasc := once_asc (accL (mPay L payer s at_))
    have hasc2 := mAscL_pw hasc
    have hz := bal_zero (mPay L payer s at_)
    have hbb := fun a => mSum_bd (g := balOf a) (l := mPay L payer s at_) (fun x hx => balOf_bd hx)
    simp at hol
    simp (config := {maxSteps := 3000000}) [Try.f5, hbig, h1, -c20_fn]
    repeat' (with_reducible first | apply And.intro | intro _)
    all_goals try (first | omega | assumption | (simp; done) | (simp only [below_eq, Int.reduceLT]; omega))
    have hpf : (payAll payer at_ L s).isSome = true → mAreEntries L = true → mAreEntries (mPay L payer s at_) = true ∧ mSumOf (paidOf payer) (mPay L payer s at_) - mSumOf (paidOf payer) L = mTotal s := by
      intro hs ha
      cases hpay : payAll payer at_ L s with
      | none => rw [hpay] at hs; cases hs
      | some r =>
        obtain ⟨f1, f2⟩ := pay_facts hpay ha
        rw [pay_yes hpay, mSumOf_yes f1, mSumOf_yes ha, f2]
        exact ⟨f1, by omega⟩
    have hpn : (payAll payer at_ L s).isSome = false → (mPay L payer s at_).length = L.length := by
      intro hs
      cases hpay : payAll payer at_ L s with
      | none => rw [pay_no hpay]
      | some r => rw [hpay] at hs; cases hs
    have hp1 := mSum_bd (g := paidOf payer) (l := mPay L payer s at_) (fun x hx => paidOf_bd hx)
    have hp2 := mSum_bd (g := paidOf payer) (l := L) (fun x hx => paidOf_bd hx)
    have hab := add_bal (l := b) (x := e)
    have hbt := mSum_bd (g := balOf e.To) (l := b) (fun x hx => balOf_bd hx)
    have hbf := mSum_bd (g := balOf e.From) (l := b) (fun x hx => balOf_bd hx)
    have hno : mAreEntries (b ++ [e]) = false → (mAddEntry b e).length = b.length := fun h => by rw [mAddEntry_no h]
    have hael := mAddEntry_len b e
    have hadd : (mAreEntries (b ++ [e]) = true ∧ mSumOf (balOf e.To) (mAddEntry b e) = mSumOf (balOf e.To) b + e.Cents) ∧ mSumOf (balOf e.From) (mAddEntry b e) = mSumOf (balOf e.From) b - e.Cents ∨ mAreEntries (b ++ [e]) = false ∧ ((mAddEntry b e).length : Int) = b.length := by
      cases hm : mAreEntries (b ++ [e]) with
      | true => have q := hab hm; exact .inl ⟨⟨rfl, q.1⟩, q.2.1⟩
      | false => exact .inr ⟨rfl, by rw [hno hm]⟩
    generalize ha : mOnce (accL (mPay L payer s at_)) [] = a at *
    generalize hx : mPay L payer s at_ = x at *
    generalize hok : (payAll payer at_ L s).isSome = ok at *
    refine loop_inv (fun p : Nat => p ≤ a.length) (fun p => [(0, encLU l), (3, encLTEntry L), (4, dI payer), (5, encLTShare s), (7, encLTEntry x), (8, dB ok), (9, encLI a), (10, dI (accSum (fun b => mSumOf (balOf b) x) (a.take p))), (11, dI p)]) (fun _ => []) 1 (fun p => a.length - p) 0 400 (by simp) (by simp) (by simp [accSum]) ?_
    intro p hpa
    have hab2 := accSum_bd hbb (a.take p)
    have hlt : (a.take p).length = p := by rw [List.length_take]; omega
    rw [hlt] at hab2
    have hb1 := hbb (a[p]?.getD 0)
    simp (config := {maxSteps := 3000000}) [hbig, h2, -c28_fn]
    refine ⟨fun hlt => ?_, fun hge => ?_⟩
    · have hs := accSum_at (g := fun b => mSumOf (balOf b) x) hlt
      repeat' (with_reducible first | apply And.intro | intro _)
      all_goals try (first | omega | assumption | (simp; done) | (simp only [below_eq, Int.reduceLT]; omega))
      all_goals first | exact Again.mk (p + 1) (by omega) (by simp [hs]) (by first | omega | (simp; omega)) | trace_state
    · have hpe : p = a.length := by omega
      subst hpe
      rw [List.take_length] at *
      repeat' (with_reducible first | apply And.intro | intro _)
      all_goals try (first | omega | assumption | (simp; done) | (simp only [below_eq, Int.reduceLT]; omega))
      all_goals first | (have q := hpn (by assumption); omega) | (have q := hno (by assumption); omega) | exact (hpf (by assumption) (by assumption)).2 | exact (hpf (by assumption) (by assumption)).1 | exact hpn (by assumption) | exact hno (by assumption) | exact (hab (by assumption)).1 | exact (hab (by assumption)).2.1 | (have q := hab (by assumption); omega) | exact hadd | trace_state
theorem law5_pc (D0 : D) (h0 : Sh G 9 22 D0) : PC Try.prog 5 [D0] (dB true) [] := by
  obtain ⟨l, rfl, wl⟩ := sh22 (n := 7) h0
  exact law5 l wl

end Go.Proofs.Ytdbhfkbfajljpaa
