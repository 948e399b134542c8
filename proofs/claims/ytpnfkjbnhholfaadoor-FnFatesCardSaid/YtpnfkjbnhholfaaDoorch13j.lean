/- Contracts of the functions that the laws run. -/
import Derived.Test.YtpnfkjbnhholfaaDoorch13i
import Derived.Test.YtpnfkjbnhholfaaDoorEngB
namespace Go.Proofs.YtpnfkjbnhholfaaDoor
open Go Go.Eng
set_option linter.unusedSimpArgs false
set_option linter.unusedVariables false
set_option maxRecDepth 10000
set_option maxHeartbeats 1000000
def nextOk (a st : Int) : Bool := (decide (a = 0) && (decide (st = 1) || decide (st = 2))) || (decide (a = 1) && decide (st = 3))
def setS (l : List TClaim) (i : Nat) (st : Int) : List TClaim := l.set i { (l[i]?.getD default) with State := st }
theorem setS_len (l : List TClaim) (i : Nat) (st : Int) : (setS l i st).length = l.length := by simp [setS]
def mvTo (l : List TClaim) (i : Nat) (st : Int) : List TClaim := if nextOk (l[i]?.getD default).State st then setS l i st else l
theorem mvTo_yes {l : List TClaim} {i : Nat} {st : Int} (h : nextOk (l[i]?.getD default).State st = true) : mvTo l i st = setS l i st := by simp [mvTo, h]
theorem mvTo_no {l : List TClaim} {i : Nat} {st : Int} (h : nextOk (l[i]?.getD default).State st = false) : mvTo l i st = l := by simp [mvTo, h]
theorem nextOk_iff {a st : Int} : nextOk a st = true ↔ (a = 0 ∧ (st = 1 ∨ st = 2)) ∨ (a = 1 ∧ st = 3) := by
  simp only [nextOk, Bool.or_eq_true, Bool.and_eq_true, decide_eq_true_eq]
@[simp] theorem nz_elp (nm : Nm) (i o : Nat) : nz (.elp nm i o) = .elp nm i o := rfl
theorem find_lt {l : List TClaim} {n : Int} (h : 0 ≤ mFindClaim l n) : (mFindClaim l n).toNat < l.length := by
  have := indexBy_bd (want := wantN nClaim n) l 0
  simp only [mFindClaim] at h ⊢
  omega
def okSet (l : List TClaim) (n st : Int) : Bool := decide (0 ≤ mFindClaim l n) && (mAreClaims l && (nextOk (l[(mFindClaim l n).toNat]?.getD default).State st && mAreClaims (setS l (mFindClaim l n).toNat st)))
def mSetState (l : List TClaim) (n st : Int) : List TClaim := if okSet l n st then setS l (mFindClaim l n).toNat st else l
theorem mSetState_yes {l : List TClaim} {n st : Int} (h : okSet l n st = true) : mSetState l n st = setS l (mFindClaim l n).toNat st := by simp [mSetState, h]
theorem mSetState_no {l : List TClaim} {n st : Int} (h : okSet l n st = false) : mSetState l n st = l := by simp [mSetState, h]
theorem mSetState_len (l : List TClaim) (n st : Int) : (mSetState l n st).length = l.length := by
  simp only [mSetState]; split
  · rw [setS_len]
  · rfl
/-- loop.example/g03007/spec.SetState -/
noncomputable def c64 : Con := mkCon 64 false (α := (List TClaim) × Int × Int) (fun x => (fun (l : List TClaim) (n : Int) (st : Int) => [encLTClaim l, dI n, dI st]) x.1 x.2.1 x.2.2) (fun _ => []) (fun x => (fun (l : List TClaim) (n : Int) (st : Int) => l.length ≤ 1073741000) x.1 x.2.1 x.2.2) (fun x => (fun (l : List TClaim) (n : Int) (st : Int) => (.tup [.own (0, 1) 5 0 (mSetState l n st).length, dB (okSet l n st)] : D)) x.1 x.2.1 x.2.2) (fun x => (fun (l : List TClaim) (n : Int) (st : Int) => [((0, 1), .arr false 5 yTClaim (ML encTClaim (mSetState l n st)))]) x.1 x.2.1 x.2.2)
@[simp] theorem c64_f : c64.f = 64 := rfl
@[simp] theorem c64_own : c64.own = false := rfl
theorem c64_inj : ∀ u_ v_ : (List TClaim) × Int × Int, ((fun x => (fun (l : List TClaim) (n : Int) (st : Int) => [encLTClaim l, dI n, dI st]) x.1 x.2.1 x.2.2) u_).map nz = ((fun x => (fun (l : List TClaim) (n : Int) (st : Int) => [encLTClaim l, dI n, dI st]) x.1 x.2.1 x.2.2) v_).map nz → u_ = v_ := by
  intro u_ v_ h
  obtain ⟨l, n, st⟩ := u_
  obtain ⟨l', n', st'⟩ := v_
  simp [nz_lit, nz1_lit, nz_agg, nz_sl, nz1_sl, encLTClaim] at h
  first | (simp [h]; done) | (obtain ⟨⟩ := h; simp_all; done) | simp_all
@[simp] theorem c64_fn (l : List TClaim) (n : Int) (st : Int) : c64.fn [.sl false 5 yTClaim (ML encTClaim l), .lit (.int .i64 n), .lit (.int .i64 st)] [] = some ((fun (l : List TClaim) (n : Int) (st : Int) => l.length ≤ 1073741000) l n st, (fun (l : List TClaim) (n : Int) (st : Int) => (.tup [.own (0, 1) 5 0 (mSetState l n st).length, dB (okSet l n st)] : D)) l n st, (fun (l : List TClaim) (n : Int) (st : Int) => [((0, 1), .arr false 5 yTClaim (ML encTClaim (mSetState l n st)))]) l n st) :=
  mkCon_fn (fun x y h _ => c64_inj x y h) ((l, n, st) : (List TClaim) × Int × Int) (by simp [nz, nz1, ML_nil, encLTClaim]) rfl
@[simp] theorem c64_fn1 (s_l : Nat) (z_l : D) (n : Int) (st : Int) : c64.fn [.sl false s_l z_l [], .lit (.int .i64 n), .lit (.int .i64 st)] [] = some ((fun (l : List TClaim) (n : Int) (st : Int) => l.length ≤ 1073741000) [] n st, (fun (l : List TClaim) (n : Int) (st : Int) => (.tup [.own (0, 1) 5 0 (mSetState l n st).length, dB (okSet l n st)] : D)) [] n st, (fun (l : List TClaim) (n : Int) (st : Int) => [((0, 1), .arr false 5 yTClaim (ML encTClaim (mSetState l n st)))]) [] n st) :=
  mkCon_fn (fun x y h _ => c64_inj x y h) (([], n, st) : (List TClaim) × Int × Int) (by simp [nz, nz1, ML_nil, encLTClaim]) rfl
theorem c64_pc (l : List TClaim) (n : Int) (st : Int) (hpre : l.length ≤ 1073741000) : PCo Tryd.prog 64 [encLTClaim l, dI n, dI st] (Tab.of []) (.tup [.own (0, 1) 5 0 (mSetState l n st).length, dB (okSet l n st)]) (Tab.of [((0, 1), .arr false 5 yTClaim (ML encTClaim (mSetState l n st)))]) := by
  refine pco_of_run [] (E := ⟨[c70, c71], [], []⟩) (m := false) (base := 0) (Env.ok_cons c70_ok (Env.ok_cons c71_ok Env.ok_nil)) G_ok mix 300 6 Tryd.func64 (by kernel_rfl) rfl (by kernel_rfl) (by kernel_rfl) rfl ?_
  by_cases h1 : 0 ≤ mFindClaim l n
  · have hlt := find_lt h1
    obtain ⟨i, hi⟩ : ∃ i : Nat, mFindClaim l n = i := ⟨(mFindClaim l n).toNat, by omega⟩
    rw [hi] at hlt
    simp only [Int.toNat_natCast] at hlt
    cases ha : mAreClaims l with
    | false =>
      have h2 : okSet l n st = false := by simp [okSet, ha]
      simp [Tryd.f64, hi, h1, ha, h2, mSetState_no h2]
      omega
    | true =>
      have hz := setS_len l i st
      have hset : l.set i ⟨(l[i]?.getD default).Id, (l[i]?.getD default).Who, (l[i]?.getD default).Thing, (l[i]?.getD default).At, st⟩ = setS l i st := rfl
      cases hn : nextOk (l[i]?.getD default).State st with
      | false =>
        have h2 : okSet l n st = false := by simp [okSet, hi, hn]
        have hk : ¬ _ := fun e => Bool.noConfusion (hn.symm.trans (nextOk_iff.2 e))
        simp [Tryd.f64, hi, h1, ha, h2, mSetState_no h2, hz, hset]
        repeat' (first | omega | refine And.intro ?_ ?_ | intro _)
      | true =>
        have hk := nextOk_iff.1 hn
        cases h : mAreClaims (setS l i st) with
        | false =>
          have h2 : okSet l n st = false := by simp [okSet, hi, h]
          simp [Tryd.f64, hi, h1, ha, h2, h, mSetState_no h2, hz, hset]
          repeat' (first | omega | refine And.intro ?_ ?_ | intro _)
        | true =>
          have h2 : okSet l n st = true := by simp [okSet, hi, h, ha, hn]
          simp [Tryd.f64, hi, h1, ha, h2, h, mSetState_yes h2, hz, hset]
          repeat' (first | omega | refine And.intro ?_ ?_ | intro _)
  · have h2 : okSet l n st = false := by simp [okSet, h1]
    have h3 : mFindClaim l n < 0 := by omega
    simp [Tryd.f64, h3, h2, mSetState_no h2]
    omega
theorem c64_ok : c64.ok Tryd.prog := mkCon_ok fun ⟨l, n, st⟩ hpre => c64_pc l n st hpre
end Go.Proofs.YtpnfkjbnhholfaaDoor
