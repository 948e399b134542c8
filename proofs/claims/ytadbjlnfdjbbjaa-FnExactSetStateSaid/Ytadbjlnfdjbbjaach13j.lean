/- Contracts of the functions that the laws run. -/
import Derived.Test.Ytadbjlnfdjbbjaach13i
import Derived.Test.YtadbjlnfdjbbjaaEngB
namespace Go.Proofs.Ytadbjlnfdjbbjaa
open Go Go.Eng
set_option linter.unusedSimpArgs false
set_option linter.unusedVariables false
set_option maxRecDepth 10000
set_option maxHeartbeats 1000000
def nextOk (a st : Int) : Bool := (decide (a = 0) && (decide (st = 1) || decide (st = 2))) || (decide (a = 1) && decide (st = 3))
def setS (l : List TClaim) (i : Nat) (st : Int) : List TClaim := l.set i { (l[i]?.getD default) with State := st }
theorem setS_len (l : List TClaim) (i : Nat) (st : Int) : (setS l i st).length = l.length := by simp [setS]
def mvTo (l : List TClaim) (i : Nat) (st : Int) : List TClaim := if nextOk (l[i]?.getD default).State st then setS l i st else l
theorem mvTo_yes {l : List TClaim} {i : Nat} {st : Int} (h : nextOk (l[i]?.getD default).State st = true) : mvTo l i st = setS l i st := by simp [mvTo, h]
theorem mvTo_no {l : List TClaim} {i : Nat} {st : Int} (h : nextOk (l[i]?.getD default).State st = false) : mvTo l i st = l := by simp [mvTo, h]
theorem nextOk_iff {a st : Int} : nextOk a st = true ↔ (a = 0 ∧ (st = 1 ∨ st = 2)) ∨ (a = 1 ∧ st = 3) := by
  simp only [nextOk, Bool.or_eq_true, Bool.and_eq_true, decide_eq_true_eq]
@[simp] theorem nz_elp (nm : Nm) (i o : Nat) : nz (.elp nm i o) = .elp nm i o := rfl
/-- loop.example/g03007/impl.moveTo -/
noncomputable def c107 : Con := mkCon 107 true (α := (List TClaim) × Nat × Int) (fun x => (fun (l : List TClaim) (i : Nat) (st : Int) => ([.elp (0, 0) i 0, dI st] : List D)) x.1 x.2.1 x.2.2) (fun x => (fun (l : List TClaim) (i : Nat) (st : Int) => ([((0, 0), .arr false 5 yTClaim (ML encTClaim l))] : List (Nm × OO))) x.1 x.2.1 x.2.2) (fun x => (fun (l : List TClaim) (i : Nat) (st : Int) => i < l.length) x.1 x.2.1 x.2.2) (fun x => (fun (l : List TClaim) (i : Nat) (st : Int) => (dB (nextOk (l[i]?.getD default).State st) : D)) x.1 x.2.1 x.2.2) (fun x => (fun (l : List TClaim) (i : Nat) (st : Int) => ([((0, 0), .arr false 5 yTClaim (ML encTClaim (mvTo l i st)))] : List (Nm × OO))) x.1 x.2.1 x.2.2)
@[simp] theorem c107_f : c107.f = 107 := rfl
@[simp] theorem c107_own : c107.own = true := rfl
theorem c107_inj : ∀ u_ v_ : (List TClaim) × Nat × Int, ((fun x => (fun (l : List TClaim) (i : Nat) (st : Int) => ([.elp (0, 0) i 0, dI st] : List D)) x.1 x.2.1 x.2.2) u_).map nz = ((fun x => (fun (l : List TClaim) (i : Nat) (st : Int) => ([.elp (0, 0) i 0, dI st] : List D)) x.1 x.2.1 x.2.2) v_).map nz → (fun x => (fun (l : List TClaim) (i : Nat) (st : Int) => ([((0, 0), .arr false 5 yTClaim (ML encTClaim l))] : List (Nm × OO))) x.1 x.2.1 x.2.2) u_ = (fun x => (fun (l : List TClaim) (i : Nat) (st : Int) => ([((0, 0), .arr false 5 yTClaim (ML encTClaim l))] : List (Nm × OO))) x.1 x.2.1 x.2.2) v_ → u_ = v_ := by
  intro u_ v_ h h2_
  obtain ⟨l, i, st⟩ := u_
  obtain ⟨l', i', st'⟩ := v_
  simp [nz_lit, nz1_lit, nz_agg, nz_sl, nz1_sl, nz_sx, nz_el, nz1_el, nz_own, nz1_own, nz_ptr, nz_fn, nz_iface] at h h2_
  first | (simp [h, h2_]; done) | (obtain ⟨h3_, h4_⟩ := List.append_inj h2_ h.1; simp_all; done) | simp_all | grind
@[simp] theorem c107_fn (l : List TClaim) (i : Nat) (st : Int) : c107.fn ([.elp (0, 0) i 0, dI st]) ([((0, 0), .arr false 5 yTClaim (ML encTClaim l))]) = some (i < l.length, dB (nextOk (l[i]?.getD default).State st), [((0, 0), .arr false 5 yTClaim (ML encTClaim (mvTo l i st)))]) :=
  mkCon_fn c107_inj ((l, i, st) : (List TClaim) × Nat × Int) rfl rfl
theorem c107_pc (l : List TClaim) (i : Nat) (st : Int) (hpre : i < l.length) : PCo Try.prog 107 ([.elp (0, 0) i 0, dI st]) (Tab.of ([((0, 0), .arr false 5 yTClaim (ML encTClaim l))])) (dB (nextOk (l[i]?.getD default).State st)) (Tab.of ([((0, 0), .arr false 5 yTClaim (ML encTClaim (mvTo l i st)))])) := by
  refine pco_of_run [] (E := ⟨[], []⟩) (m := false) (base := 0) Env.ok_nil G_ok mix 300 6 Try.func107 (by kernel_rfl) rfl (by kernel_rfl) (by kernel_rfl) rfl ?_
  cases h : nextOk (l[i]?.getD default).State st with
  | true =>
    simp [Try.f107, mvTo_yes h, setS]
    have hk := nextOk_iff.1 h
    exact ⟨hpre, fun _ => by omega, fun _ => hpre⟩
  | false =>
    simp [Try.f107, mvTo_no h]
    have hk : ¬ _ := fun e => Bool.noConfusion (h.symm.trans (nextOk_iff.2 e))
    exact ⟨hpre, by omega, by omega⟩
theorem c107_ok : c107.ok Try.prog := mkCon_ok fun ⟨l, i, st⟩ hpre => c107_pc l i st hpre
theorem find_lt {l : List TClaim} {n : Int} (h : 0 ≤ mFindClaim l n) : (mFindClaim l n).toNat < l.length := by
  have := indexBy_bd (want := wantN nClaim n) l 0
  simp only [mFindClaim] at h ⊢
  omega
def okSet (l : List TClaim) (n st : Int) : Bool := decide (0 ≤ mFindClaim l n) && (mAreClaims l && (nextOk (l[(mFindClaim l n).toNat]?.getD default).State st && mAreClaims (setS l (mFindClaim l n).toNat st)))
def mSetState (l : List TClaim) (n st : Int) : List TClaim := if okSet l n st then setS l (mFindClaim l n).toNat st else l
theorem mSetState_yes {l : List TClaim} {n st : Int} (h : okSet l n st = true) : mSetState l n st = setS l (mFindClaim l n).toNat st := by simp [mSetState, h]
theorem mSetState_no {l : List TClaim} {n st : Int} (h : okSet l n st = false) : mSetState l n st = l := by simp [mSetState, h]
theorem mSetState_len (l : List TClaim) (n st : Int) : (mSetState l n st).length = l.length := by
  simp only [mSetState]; split
  · rw [setS_len]
  · rfl
/-- loop.example/g03007/impl.SetState -/
noncomputable def c36 : Con := mkCon 36 false (α := (List TClaim) × Int × Int) (fun x => (fun (l : List TClaim) (n : Int) (st : Int) => [encLTClaim l, dI n, dI st]) x.1 x.2.1 x.2.2) (fun _ => []) (fun x => (fun (l : List TClaim) (n : Int) (st : Int) => l.length ≤ 1073741000) x.1 x.2.1 x.2.2) (fun x => (fun (l : List TClaim) (n : Int) (st : Int) => (.tup [.own (0, 1) 5 0 (mSetState l n st).length, dB (okSet l n st)] : D)) x.1 x.2.1 x.2.2) (fun x => (fun (l : List TClaim) (n : Int) (st : Int) => [((0, 1), .arr false 5 yTClaim (ML encTClaim (mSetState l n st)))]) x.1 x.2.1 x.2.2)
@[simp] theorem c36_f : c36.f = 36 := rfl
@[simp] theorem c36_own : c36.own = false := rfl
theorem c36_inj : ∀ u_ v_ : (List TClaim) × Int × Int, ((fun x => (fun (l : List TClaim) (n : Int) (st : Int) => [encLTClaim l, dI n, dI st]) x.1 x.2.1 x.2.2) u_).map nz = ((fun x => (fun (l : List TClaim) (n : Int) (st : Int) => [encLTClaim l, dI n, dI st]) x.1 x.2.1 x.2.2) v_).map nz → u_ = v_ := by
  intro u_ v_ h
  obtain ⟨l, n, st⟩ := u_
  obtain ⟨l', n', st'⟩ := v_
  simp [nz_lit, nz1_lit, nz_agg, nz_sl, nz1_sl, encLTClaim] at h
  first | (simp [h]; done) | (obtain ⟨⟩ := h; simp_all; done) | simp_all
@[simp] theorem c36_fn (l : List TClaim) (n : Int) (st : Int) : c36.fn [.sl false 5 yTClaim (ML encTClaim l), .lit (.int .i64 n), .lit (.int .i64 st)] [] = some ((fun (l : List TClaim) (n : Int) (st : Int) => l.length ≤ 1073741000) l n st, (fun (l : List TClaim) (n : Int) (st : Int) => (.tup [.own (0, 1) 5 0 (mSetState l n st).length, dB (okSet l n st)] : D)) l n st, (fun (l : List TClaim) (n : Int) (st : Int) => [((0, 1), .arr false 5 yTClaim (ML encTClaim (mSetState l n st)))]) l n st) :=
  mkCon_fn (fun x y h _ => c36_inj x y h) ((l, n, st) : (List TClaim) × Int × Int) (by simp [nz, nz1, ML_nil, encLTClaim]) rfl
@[simp] theorem c36_fn1 (s_l : Nat) (z_l : D) (n : Int) (st : Int) : c36.fn [.sl false s_l z_l [], .lit (.int .i64 n), .lit (.int .i64 st)] [] = some ((fun (l : List TClaim) (n : Int) (st : Int) => l.length ≤ 1073741000) [] n st, (fun (l : List TClaim) (n : Int) (st : Int) => (.tup [.own (0, 1) 5 0 (mSetState l n st).length, dB (okSet l n st)] : D)) [] n st, (fun (l : List TClaim) (n : Int) (st : Int) => [((0, 1), .arr false 5 yTClaim (ML encTClaim (mSetState l n st)))]) [] n st) :=
  mkCon_fn (fun x y h _ => c36_inj x y h) (([], n, st) : (List TClaim) × Int × Int) (by simp [nz, nz1, ML_nil, encLTClaim]) rfl
theorem c36_pc (l : List TClaim) (n : Int) (st : Int) (hpre : l.length ≤ 1073741000) : PCo Try.prog 36 [encLTClaim l, dI n, dI st] (Tab.of []) (.tup [.own (0, 1) 5 0 (mSetState l n st).length, dB (okSet l n st)]) (Tab.of [((0, 1), .arr false 5 yTClaim (ML encTClaim (mSetState l n st)))]) := by
  refine pco_of_run [] (E := ⟨[c28, c102, c104, c107], []⟩) (m := false) (base := 0) (Env.ok_cons c28_ok (Env.ok_cons c102_ok (Env.ok_cons c104_ok (Env.ok_cons c107_ok Env.ok_nil)))) G_ok mix 300 6 Try.func36 (by kernel_rfl) rfl (by kernel_rfl) (by kernel_rfl) rfl ?_
  by_cases h1 : 0 ≤ mFindClaim l n
  · have hlt := find_lt h1
    obtain ⟨i, hi⟩ : ∃ i : Nat, mFindClaim l n = i := ⟨(mFindClaim l n).toNat, by omega⟩
    rw [hi] at hlt
    simp only [Int.toNat_natCast] at hlt
    cases ha : mAreClaims l with
    | false =>
      have h2 : okSet l n st = false := by simp [okSet, ha]
      simp [Try.f36, hi, h1, ha, h2, mSetState_no h2]
      omega
    | true =>
      cases hn : nextOk (l[i]?.getD default).State st with
      | false =>
        have h2 : okSet l n st = false := by simp [okSet, hi, hn]
        simp [Try.f36, hi, h1, ha, h2, hn, mvTo_no hn, mSetState_no h2]
        omega
      | true =>
        have hz := setS_len l i st
        cases h : mAreClaims (setS l i st) with
        | false =>
          have h2 : okSet l n st = false := by simp [okSet, hi, h]
          simp [Try.f36, hi, h1, ha, h2, hn, h, mvTo_yes hn, mSetState_no h2, hz]
          omega
        | true =>
          have h2 : okSet l n st = true := by simp [okSet, hi, h, ha, hn]
          simp [Try.f36, hi, h1, ha, h2, hn, h, mvTo_yes hn, mSetState_yes h2, hz]
          omega
  · have h2 : okSet l n st = false := by simp [okSet, h1]
    have h3 : mFindClaim l n < 0 := by omega
    simp [Try.f36, h3, h2, mSetState_no h2]
    omega
theorem c36_ok : c36.ok Try.prog := mkCon_ok fun ⟨l, n, st⟩ hpre => c36_pc l n st hpre
/-- loop.example/g03007/spec.SetState -/
noncomputable def c35 : Con := mkCon 35 false (α := (List TClaim) × Int × Int) (fun x => (fun (l : List TClaim) (n : Int) (st : Int) => [encLTClaim l, dI n, dI st]) x.1 x.2.1 x.2.2) (fun _ => []) (fun x => (fun (l : List TClaim) (n : Int) (st : Int) => l.length ≤ 1073741000) x.1 x.2.1 x.2.2) (fun x => (fun (l : List TClaim) (n : Int) (st : Int) => (.tup [.own (0, 1) 5 0 (mSetState l n st).length, dB (okSet l n st)] : D)) x.1 x.2.1 x.2.2) (fun x => (fun (l : List TClaim) (n : Int) (st : Int) => [((0, 1), .arr false 5 yTClaim (ML encTClaim (mSetState l n st)))]) x.1 x.2.1 x.2.2)
@[simp] theorem c35_f : c35.f = 35 := rfl
@[simp] theorem c35_own : c35.own = false := rfl
theorem c35_inj : ∀ u_ v_ : (List TClaim) × Int × Int, ((fun x => (fun (l : List TClaim) (n : Int) (st : Int) => [encLTClaim l, dI n, dI st]) x.1 x.2.1 x.2.2) u_).map nz = ((fun x => (fun (l : List TClaim) (n : Int) (st : Int) => [encLTClaim l, dI n, dI st]) x.1 x.2.1 x.2.2) v_).map nz → u_ = v_ := by
  intro u_ v_ h
  obtain ⟨l, n, st⟩ := u_
  obtain ⟨l', n', st'⟩ := v_
  simp [nz_lit, nz1_lit, nz_agg, nz_sl, nz1_sl, encLTClaim] at h
  first | (simp [h]; done) | (obtain ⟨⟩ := h; simp_all; done) | simp_all
@[simp] theorem c35_fn (l : List TClaim) (n : Int) (st : Int) : c35.fn [.sl false 5 yTClaim (ML encTClaim l), .lit (.int .i64 n), .lit (.int .i64 st)] [] = some ((fun (l : List TClaim) (n : Int) (st : Int) => l.length ≤ 1073741000) l n st, (fun (l : List TClaim) (n : Int) (st : Int) => (.tup [.own (0, 1) 5 0 (mSetState l n st).length, dB (okSet l n st)] : D)) l n st, (fun (l : List TClaim) (n : Int) (st : Int) => [((0, 1), .arr false 5 yTClaim (ML encTClaim (mSetState l n st)))]) l n st) :=
  mkCon_fn (fun x y h _ => c35_inj x y h) ((l, n, st) : (List TClaim) × Int × Int) (by simp [nz, nz1, ML_nil, encLTClaim]) rfl
@[simp] theorem c35_fn1 (s_l : Nat) (z_l : D) (n : Int) (st : Int) : c35.fn [.sl false s_l z_l [], .lit (.int .i64 n), .lit (.int .i64 st)] [] = some ((fun (l : List TClaim) (n : Int) (st : Int) => l.length ≤ 1073741000) [] n st, (fun (l : List TClaim) (n : Int) (st : Int) => (.tup [.own (0, 1) 5 0 (mSetState l n st).length, dB (okSet l n st)] : D)) [] n st, (fun (l : List TClaim) (n : Int) (st : Int) => [((0, 1), .arr false 5 yTClaim (ML encTClaim (mSetState l n st)))]) [] n st) :=
  mkCon_fn (fun x y h _ => c35_inj x y h) (([], n, st) : (List TClaim) × Int × Int) (by simp [nz, nz1, ML_nil, encLTClaim]) rfl
theorem c35_pc (l : List TClaim) (n : Int) (st : Int) (hpre : l.length ≤ 1073741000) : PCo Try.prog 35 [encLTClaim l, dI n, dI st] (Tab.of []) (.tup [.own (0, 1) 5 0 (mSetState l n st).length, dB (okSet l n st)]) (Tab.of [((0, 1), .arr false 5 yTClaim (ML encTClaim (mSetState l n st)))]) := by
  refine pco_of_run [] (E := ⟨[c26, c106], []⟩) (m := false) (base := 0) (Env.ok_cons c26_ok (Env.ok_cons c106_ok Env.ok_nil)) G_ok mix 300 6 Try.func35 (by kernel_rfl) rfl (by kernel_rfl) (by kernel_rfl) rfl ?_
  by_cases h1 : 0 ≤ mFindClaim l n
  · have hlt := find_lt h1
    obtain ⟨i, hi⟩ : ∃ i : Nat, mFindClaim l n = i := ⟨(mFindClaim l n).toNat, by omega⟩
    rw [hi] at hlt
    simp only [Int.toNat_natCast] at hlt
    cases ha : mAreClaims l with
    | false =>
      have h2 : okSet l n st = false := by simp [okSet, ha]
      simp [Try.f35, hi, h1, ha, h2, mSetState_no h2]
      omega
    | true =>
      have hz := setS_len l i st
      have hset : l.set i ⟨(l[i]?.getD default).Id, (l[i]?.getD default).Who, (l[i]?.getD default).Thing, (l[i]?.getD default).At, st⟩ = setS l i st := rfl
      cases hn : nextOk (l[i]?.getD default).State st with
      | false =>
        have h2 : okSet l n st = false := by simp [okSet, hi, hn]
        have hk : ¬ _ := fun e => Bool.noConfusion (hn.symm.trans (nextOk_iff.2 e))
        simp [Try.f35, hi, h1, ha, h2, mSetState_no h2, hz, hset]
        repeat' (first | omega | refine And.intro ?_ ?_ | intro _)
      | true =>
        have hk := nextOk_iff.1 hn
        cases h : mAreClaims (setS l i st) with
        | false =>
          have h2 : okSet l n st = false := by simp [okSet, hi, h]
          simp [Try.f35, hi, h1, ha, h2, h, mSetState_no h2, hz, hset]
          repeat' (first | omega | refine And.intro ?_ ?_ | intro _)
        | true =>
          have h2 : okSet l n st = true := by simp [okSet, hi, h, ha, hn]
          simp [Try.f35, hi, h1, ha, h2, h, mSetState_yes h2, hz, hset]
          repeat' (first | omega | refine And.intro ?_ ?_ | intro _)
  · have h2 : okSet l n st = false := by simp [okSet, h1]
    have h3 : mFindClaim l n < 0 := by omega
    simp [Try.f35, h3, h2, mSetState_no h2]
    omega
theorem c35_ok : c35.ok Try.prog := mkCon_ok fun ⟨l, n, st⟩ hpre => c35_pc l n st hpre
/-- loop.example/g03007/laws.FnExactSetState -/
theorem law5 (l : List TClaim) (wl : wfLTClaim l) (n : Int) (wn : inR .i64 n) (st : Int) (wst : inR .i64 st) : PCo Try.prog 5 [encLTClaim l, dI n, dI st] (Tab.of []) (dB true) (Tab.of []) := by
  refine pco_of_run [] (E := ⟨[c25, c27, c29, c33, c34, c35, c36], []⟩) (m := false) (base := 0) (Env.ok_cons c25_ok (Env.ok_cons c27_ok (Env.ok_cons c29_ok (Env.ok_cons c33_ok (Env.ok_cons c34_ok (Env.ok_cons c35_ok (Env.ok_cons c36_ok Env.ok_nil))))))) G_ok mix 400 6 Try.func5 (by kernel_rfl) rfl (by kernel_rfl) (by kernel_rfl) rfl ?_
  simp (config := {maxSteps := 3000000}) [Try.f5]
  have h1 : l.length ≤ maxLen := wl.1
  have hb := mSetState_len l n st
  refine ⟨h1, fun h => ?_⟩
  split at h
  · omega
  · repeat' (first | omega | refine And.intro ?_ ?_ | intro _)
theorem law5_pc (D0 : D) (h0 : Sh G 9 22 D0) (D1 : D) (h1 : Sh G 9 3 D1) (D2 : D) (h2 : Sh G 9 3 D2) : PC Try.prog 5 [D0, D1, D2] (dB true) [] := by
  obtain ⟨l, rfl, wl⟩ := sh22 (n := 6) h0
  obtain ⟨n, rfl, wn⟩ := sh3 (n := 8) h1
  obtain ⟨st, rfl, wst⟩ := sh3 (n := 8) h2
  exact law5 l wl n wn st wst

end Go.Proofs.Ytadbjlnfdjbbjaa
