/- Contracts of the functions that the laws run. -/
import Derived.Test.Ytpnfkjbnhholfaach11
import Derived.Test.YtpnfkjbnhholfaaEngB
namespace Go.Proofs.Ytpnfkjbnhholfaa
open Go Go.Eng
set_option linter.unusedSimpArgs false
set_option linter.unusedVariables false
set_option maxRecDepth 10000
set_option maxHeartbeats 1000000
theorem ML_tailM (l : List TMark) : (ML encTMark l).tail = ML encTMark l.tail := by cases l <;> rfl
def mPutMark (l : List TMark) (x : TMark) : List TMark := if mAreMarks (putBy nMark x l) then putBy nMark x l else l
theorem mPutMark_yes {l : List TMark} {x : TMark} (h : mAreMarks (putBy nMark x l) = true) : mPutMark l x = putBy nMark x l := by simp [mPutMark, h]
theorem mPutMark_no {l : List TMark} {x : TMark} (h : mAreMarks (putBy nMark x l) = false) : mPutMark l x = l := by simp [mPutMark, h]
theorem mPutMark_len (l : List TMark) (x : TMark) : (mPutMark l x).length ≤ l.length + 1 := by
  have := putBy_len nMark x l
  simp only [mPutMark]; split <;> omega
/-- loop.example/g03007/spec.PutMark -/
noncomputable def c238 : Con := mkCon 238 false (α := (List TMark) × TMark) (fun x => (fun (l : List TMark) (x : TMark) => [encLTMark l, encTMark x]) x.1 x.2) (fun _ => []) (fun x => (fun (l : List TMark) (x : TMark) => l.length ≤ 1073741823) x.1 x.2) (fun x => (fun (l : List TMark) (x : TMark) => (.tup [.own (0, 1) 2 0 (mPutMark l x).length, dB (mAreMarks (putBy nMark x l))] : D)) x.1 x.2) (fun x => (fun (l : List TMark) (x : TMark) => [((0, 1), .arr false 2 yTMark (ML encTMark (mPutMark l x)))]) x.1 x.2)
@[simp] theorem c238_f : c238.f = 238 := rfl
@[simp] theorem c238_own : c238.own = false := rfl
theorem c238_inj : ∀ u_ v_ : (List TMark) × TMark, ((fun x => (fun (l : List TMark) (x : TMark) => [encLTMark l, encTMark x]) x.1 x.2) u_).map nz = ((fun x => (fun (l : List TMark) (x : TMark) => [encLTMark l, encTMark x]) x.1 x.2) v_).map nz → u_ = v_ := by
  intro u_ v_ h
  obtain ⟨l, ⟨x_Question, x_Answer⟩⟩ := u_
  obtain ⟨l', ⟨x_Question', x_Answer'⟩⟩ := v_
  simp [nz_lit, nz1_lit, nz_agg, nz_sl, nz1_sl, encLTMark, encTMark] at h
  first | (simp [h]; done) | (obtain ⟨⟩ := h; simp_all; done) | simp_all
@[simp] theorem c238_fn (l : List TMark) (x_Question : Int) (x_Answer : Int) : c238.fn [.sl false 2 yTMark (ML encTMark l), .agg [.lit (.int .i64 x_Question), .lit (.int .i64 x_Answer)]] [] = some ((fun (l : List TMark) (x : TMark) => l.length ≤ 1073741823) l ⟨x_Question, x_Answer⟩, (fun (l : List TMark) (x : TMark) => (.tup [.own (0, 1) 2 0 (mPutMark l x).length, dB (mAreMarks (putBy nMark x l))] : D)) l ⟨x_Question, x_Answer⟩, (fun (l : List TMark) (x : TMark) => [((0, 1), .arr false 2 yTMark (ML encTMark (mPutMark l x)))]) l ⟨x_Question, x_Answer⟩) :=
  mkCon_fn (fun x y h _ => c238_inj x y h) ((l, ⟨x_Question, x_Answer⟩) : (List TMark) × TMark) (by simp [nz, nz1, ML_nil, encLTMark, encTMark]) rfl
@[simp] theorem c238_fn1 (s_l : Nat) (z_l : D) (x_Question : Int) (x_Answer : Int) : c238.fn [.sl false s_l z_l [], .agg [.lit (.int .i64 x_Question), .lit (.int .i64 x_Answer)]] [] = some ((fun (l : List TMark) (x : TMark) => l.length ≤ 1073741823) [] ⟨x_Question, x_Answer⟩, (fun (l : List TMark) (x : TMark) => (.tup [.own (0, 1) 2 0 (mPutMark l x).length, dB (mAreMarks (putBy nMark x l))] : D)) [] ⟨x_Question, x_Answer⟩, (fun (l : List TMark) (x : TMark) => [((0, 1), .arr false 2 yTMark (ML encTMark (mPutMark l x)))]) [] ⟨x_Question, x_Answer⟩) :=
  mkCon_fn (fun x y h _ => c238_inj x y h) (([], ⟨x_Question, x_Answer⟩) : (List TMark) × TMark) (by simp [nz, nz1, ML_nil, encLTMark, encTMark]) rfl
theorem c238_pc (l : List TMark) (x : TMark) (hpre : l.length ≤ 1073741823) : PCo Try.prog 238 [encLTMark l, encTMark x] (Tab.of []) (.tup [.own (0, 1) 2 0 (mPutMark l x).length, dB (mAreMarks (putBy nMark x l))]) (Tab.of [((0, 1), .arr false 2 yTMark (ML encTMark (mPutMark l x)))]) := by
  refine pco_of_run [1007] (E := ⟨[c194], [], []⟩) (m := false) (base := 0) (Env.ok_cons c194_ok Env.ok_nil) G_ok mix 300 6 Try.func238 (by kernel_rfl) rfl (by kernel_rfl) (by kernel_rfl) rfl ?_
  simp [Try.f238]
  refine loop_inv (fun k : Nat => k ≤ l.length ∧ indexBy (geN nMark x.Question) 0 l = indexBy (geN nMark x.Question) k (l.drop k)) (fun k => [(0, encLTMark l), (3, .ptr (0, 1) 0), (6, dI k)]) (fun _ => [((0, 1), .box (encTMark x))]) 2 (fun k => l.length - k) 0 400 (by simp) (by simp) (by simp) ?_
  intro k ⟨hk, hi⟩
  simp [ML_tailM]
  refine ⟨fun hlt hc => ?_, fun hge => ?_⟩
  · rw [indexBy_at (d := default) hlt] at hi
    have hg : geN nMark x.Question (l[k]?.getD default) = false := decide_eq_false (show ¬ x.Question ≤ (l[k]?.getD default).Question by omega)
    rw [if_neg (by simp [hg])] at hi
    exact ⟨by omega, Again.mk (k + 1) ⟨by omega, hi⟩ (by simp) (by first | omega | (simp; omega))⟩
  · have hat : putAt nMark x.Question l = k := by
      unfold putAt
      by_cases hlt : k < l.length
      · rw [indexBy_at (d := default) hlt] at hi
        have hg : geN nMark x.Question (l[k]?.getD default) = true := decide_eq_true (show x.Question ≤ (l[k]?.getD default).Question by have := hge hlt; omega)
        rw [if_pos hg] at hi; rw [hi]; simp; intro h; omega
      · rw [indexBy_end (by omega)] at hi; rw [hi]; simp; omega
    have hz := putBy_len nMark x l
    by_cases hq : k < l.length ∧ (l[k]?.getD default).Question = x.Question
    · have hr : putRest nMark x.Question l = k + 1 := by unfold putRest; rw [hat]; exact if_pos hq
      have e3 : l.take k ++ x :: l.drop (k + 1) = putBy nMark x l := by show _ = l.take (putAt nMark x.Question l) ++ x :: l.drop (putRest nMark x.Question l); rw [hat, hr]
      have hlen : min k l.length + 1 + (l.length - (k + 1)) = (putBy nMark x l).length := by rw [← e3]; simp; omega
      have hcond : min k l.length + 1 + (l.length - (k + 1)) = min k l.length + (l.length - (k + 1) + 1) := by omega
      refine ⟨hk, fun _ _ => ?_, fun hno => absurd hq.2 (hno (by omega))⟩
      simp only [if_pos hcond, e3]
      cases h : mAreMarks (putBy nMark x l) with
      | true => rw [mPutMark_yes h]; simp; omega
      | false => rw [mPutMark_no h]; simp; omega
    · have hr : putRest nMark x.Question l = k := by unfold putRest; rw [hat]; exact if_neg hq
      have e3 : l.take k ++ x :: l.drop k = putBy nMark x l := by show _ = l.take (putAt nMark x.Question l) ++ x :: l.drop (putRest nMark x.Question l); rw [hat, hr]
      have hlen : min k l.length + 1 + (l.length - k) = (putBy nMark x l).length := by rw [← e3]; simp; omega
      have hcond : min k l.length + 1 + (l.length - k) = min k l.length + (l.length - k + 1) := by omega
      refine ⟨hk, fun h1 h2 => absurd ⟨by omega, h2⟩ hq, fun _ => ?_⟩
      simp only [if_pos hcond, e3]
      cases h : mAreMarks (putBy nMark x l) with
      | true => rw [mPutMark_yes h]; simp; omega
      | false => rw [mPutMark_no h]; simp; omega
theorem c238_ok : c238.ok Try.prog := mkCon_ok fun ⟨l, x⟩ hpre => c238_pc l x hpre
end Go.Proofs.Ytpnfkjbnhholfaa
