/- Contracts of the functions that the laws run. -/
import Derived.Test.Ytnghehfdclhfdaach21h
import Derived.Test.Ytnghehfdclhfdaach08d
import Derived.Test.YtnghehfdclhfdaaEngB
namespace Go.Proofs.Ytnghehfdclhfdaa
open Go Go.Eng
set_option linter.unusedSimpArgs false
set_option linter.unusedVariables false
set_option maxRecDepth 10000
set_option maxHeartbeats 1000000
def loN (r : TReport) : Int := r.SizeLow.tdiv 10
def cN (r : TReport) : Nat := (r.SizeHigh.tdiv 10 + 1 - loN r).toNat
def gF (r : TReport) (salt k n : Int) : Int := mHintOf ⟨0, r.Kind, k, n * 10, 0⟩ salt
def rowH (r : TReport) (salt k : Int) (m : Nat) : List Int := (List.range m).map fun (i : Nat) => gF r salt k (loN r + i)
def allH (r : TReport) (salt : Int) : Nat → List Int
  | 0 => []
  | k + 1 => allH r salt k ++ (if mAllows r.Colours k then rowH r salt k (cN r) else [])
theorem rowH_at (r : TReport) (salt k : Int) (m : Nat) : rowH r salt k (m + 1) = rowH r salt k m ++ [gF r salt k (loN r + m)] := by simp [rowH, List.range_succ]
theorem rowH_len (r : TReport) (salt k : Int) (m : Nat) : (rowH r salt k m).length = m := by simp [rowH]
theorem rowH_bd (r : TReport) (salt k : Int) (m : Nat) : bdI (rowH r salt k m) := fun x hx => by
  obtain ⟨f, _, rfl⟩ := List.mem_map.1 hx
  exact mHash_bd _
theorem allH_bd (r : TReport) (salt : Int) : ∀ k, bdI (allH r salt k)
  | 0 => fun x hx => by cases hx
  | k + 1 => fun x hx => by
    simp only [allH] at hx
    rcases List.mem_append.1 hx with h | h
    · exact allH_bd r salt k x h
    · split at h
      · exact rowH_bd _ _ _ _ x h
      · cases h
theorem allH_len (r : TReport) (salt : Int) : ∀ k, (allH r salt k).length ≤ k * cN r
  | 0 => by simp [allH]
  | k + 1 => by
    have := allH_len r salt k
    simp only [allH, List.length_append, Nat.succ_mul]
    split
    · rw [rowH_len]; omega
    · simp; omega
theorem allH_yes {r : TReport} {salt : Int} {k : Nat} (h : mAllows r.Colours k = true) : allH r salt (k + 1) = allH r salt k ++ rowH r salt k (cN r) := by simp [allH, h]
theorem allH_no {r : TReport} {salt : Int} {k : Nat} (h : mAllows r.Colours k = false) : allH r salt (k + 1) = allH r salt k := by simp [allH, h]
def mHintsFor (r : TReport) (salt : Int) : List Int := if mIsReport r then mSetP (allH r salt 8) else []
theorem rep_sizes {r : TReport} (h : mIsReport r = true) : 0 ≤ loN r ∧ loN r ≤ 50 ∧ 0 ≤ r.SizeHigh.tdiv 10 ∧ r.SizeHigh.tdiv 10 ≤ 50 ∧ cN r ≤ 51 := by
  simp only [mIsReport, Bool.and_eq_true, decide_eq_true_eq] at h
  have h1 := h.1.1.1.1.1.2
  have h2 := h.1.1.1.1.2
  have h3 := h.1.1.1.2
  have a := tdiv10_bd r.SizeLow
  have b := tdiv10_bd r.SizeHigh
  simp only [cN, loN]
  omega
theorem mHintsFor_len (r : TReport) (salt : Int) : (mHintsFor r salt).length ≤ 408 := by
  rw [mHintsFor]; split
  · rename_i h
    have h1 := mSetP_len (allH r salt 8)
    have h2 := allH_len r salt 8
    have h3 := rep_sizes h
    omega
  · simp
/-- loop.example/g03007/impl.HintsFor -/
noncomputable def c55 : Con := mkCon 55 false (α := TReport × Int) (fun x => (fun (r : TReport) (salt : Int) => [encTReport r, dI salt]) x.1 x.2) (fun _ => []) (fun x => (fun (r : TReport) (salt : Int) => smR r) x.1 x.2) (fun x => (fun (r : TReport) (salt : Int) => (.own (0, 1) 1 0 (mHintsFor r salt).length : D)) x.1 x.2) (fun x => (fun (r : TReport) (salt : Int) => [((0, 1), .arr false 1 (dI 0) (ML dI (mHintsFor r salt)))]) x.1 x.2)
@[simp] theorem c55_f : c55.f = 55 := rfl
@[simp] theorem c55_own : c55.own = false := rfl
theorem c55_inj : ∀ u_ v_ : TReport × Int, ((fun x => (fun (r : TReport) (salt : Int) => [encTReport r, dI salt]) x.1 x.2) u_).map nz = ((fun x => (fun (r : TReport) (salt : Int) => [encTReport r, dI salt]) x.1 x.2) v_).map nz → u_ = v_ := by
  intro u_ v_ h
  obtain ⟨⟨r_Id, r_Kind, r_Colours, r_SizeLow, r_SizeHigh, r_Places, ⟨r_Span_From, r_Span_Until⟩⟩, salt⟩ := u_
  obtain ⟨⟨r_Id', r_Kind', r_Colours', r_SizeLow', r_SizeHigh', r_Places', ⟨r_Span_From', r_Span_Until'⟩⟩, salt'⟩ := v_
  simp [nz_lit, nz1_lit, nz_agg, nz_sl, nz1_sl, encLI, encTReport, encTSpan] at h
  first | (simp [h]; done) | (obtain ⟨⟩ := h; simp_all; done) | simp_all
@[simp] theorem c55_fn (r_Id : Int) (r_Kind : Int) (r_Colours : List Int) (r_SizeLow : Int) (r_SizeHigh : Int) (r_Places : List Int) (r_Span_From : Int) (r_Span_Until : Int) (salt : Int) : c55.fn [.agg [.lit (.int .i64 r_Id), .lit (.int .i64 r_Kind), .sl false 1 (.lit (.int .i64 0)) (ML dI r_Colours), .lit (.int .i64 r_SizeLow), .lit (.int .i64 r_SizeHigh), .sl false 1 (.lit (.int .i64 0)) (ML dI r_Places), .lit (.int .i64 r_Span_From), .lit (.int .i64 r_Span_Until)], .lit (.int .i64 salt)] [] = some ((fun (r : TReport) (salt : Int) => smR r) ⟨r_Id, r_Kind, r_Colours, r_SizeLow, r_SizeHigh, r_Places, ⟨r_Span_From, r_Span_Until⟩⟩ salt, (fun (r : TReport) (salt : Int) => (.own (0, 1) 1 0 (mHintsFor r salt).length : D)) ⟨r_Id, r_Kind, r_Colours, r_SizeLow, r_SizeHigh, r_Places, ⟨r_Span_From, r_Span_Until⟩⟩ salt, (fun (r : TReport) (salt : Int) => [((0, 1), .arr false 1 (dI 0) (ML dI (mHintsFor r salt)))]) ⟨r_Id, r_Kind, r_Colours, r_SizeLow, r_SizeHigh, r_Places, ⟨r_Span_From, r_Span_Until⟩⟩ salt) :=
  mkCon_fn (fun x y h _ => c55_inj x y h) ((⟨r_Id, r_Kind, r_Colours, r_SizeLow, r_SizeHigh, r_Places, ⟨r_Span_From, r_Span_Until⟩⟩, salt) : TReport × Int) (by simp [nz, nz1, ML_nil, encLI, encTReport, encTSpan]) rfl
theorem c55_pc (r : TReport) (salt : Int) (hpre : smR r) : PCo Try.prog 55 [encTReport r, dI salt] (Tab.of []) (.own (0, 1) 1 0 (mHintsFor r salt).length) (Tab.of [((0, 1), .arr false 1 (dI 0) (ML dI (mHintsFor r salt)))]) := by
  refine pco_of_run [] (E := ⟨[c73, c78, c79, c80, c81, c80], [], []⟩) (m := false) (base := 0) (Env.ok_cons c73_ok (Env.ok_cons c78_ok (Env.ok_cons c79_ok (Env.ok_cons c80_ok (Env.ok_cons c81_ok (Env.ok_cons c80_ok Env.ok_nil)))))) G_ok mix 300 6 Try.func55 (by kernel_rfl) rfl (by kernel_rfl) (by kernel_rfl) rfl ?_
  simp at hpre
  cases hc : mIsReport r with
  | false =>
    simp [Try.f55, hc, mHintsFor, fit_nil, hpre]
  | true =>
    have hm : mHintsFor r salt = mSetP (allH r salt 8) := by rw [mHintsFor, hc]; rfl
    have hz := rep_sizes hc
    rw [hm]
    simp [Try.f55, hc, hpre]
    refine loop_inv (fun k : Nat => k ≤ 8) (fun k => [(1, dI salt), (2, .ptr (0, 1) 0), (5, .mp (1, 1)), (14, dI k)]) (fun k => [((0, 1), .box (encTReport r)), ((1, 1), .map 0 (keysI (setI (allH r salt k))) (dB false) (allT (setI (allH r salt k))))]) 2 (fun k => 8 - k) 0 400 (by simp) (by simp) (by simp [allH, setI, keysI, allT]) ?_
    intro k hk
    simp [hpre]
    refine ⟨fun hlt => ⟨fun ha => ?_, fun ha => ?_⟩, fun hge => ?_⟩
    · refine ⟨by omega, Again.mk (k + 1) (by omega) (by simp [allH_no ha]) (by first | omega | (simp; omega))⟩
    · refine ⟨by simp only [loN] at hz; omega, ?_⟩
      refine loop_inv (fun i : Nat => i ≤ cN r) (fun i => [(1, dI salt), (2, .ptr (0, 1) 0), (5, .mp (1, 1)), (6, dI k), (7, dI (loN r + i)), (14, dI k)]) (fun i => [((0, 1), .box (encTReport r)), ((1, 1), .map 0 (keysI (setI (allH r salt k ++ rowH r salt k i))) (dB false) (allT (setI (allH r salt k ++ rowH r salt k i))))]) 2 (fun i => cN r - i) 0 400 (by simp) (by simp) (by simp [rowH, loN]) ?_
      intro i hi
      have hrs := rowH_at r salt k i
      have hcn : cN r = (r.SizeHigh.tdiv 10 + 1 - loN r).toNat := rfl
      simp
      refine ⟨by omega, fun hle => ?_, fun hgt => ?_⟩
      · refine ⟨by omega, by omega, Again.mk (i + 1) (by omega) (by simp [hrs, ← List.append_assoc, setI_snoc, gF, Int.add_assoc]) (by first | omega | (simp; omega))⟩
      · have : i = cN r := by omega
        subst this
        refine ⟨by omega, Again.mk (k + 1) (by omega) (by simp [allH_yes ha]) (by first | omega | (simp; omega))⟩
    · have : k = 8 := by omega
      subst this
      have h1 := mSetP_len (allH r salt 8)
      have h2 := allH_len r salt 8
      simp [mSort_set, set_len_eq, fit_set (allH_bd r salt 8)]
      omega
theorem c55_ok : c55.ok Try.prog := mkCon_ok fun ⟨r, salt⟩ hpre => c55_pc r salt hpre
/-- loop.example/g03007/spec.HintsFor -/
noncomputable def c77 : Con := mkCon 77 false (α := TReport × Int) (fun x => (fun (r : TReport) (salt : Int) => [encTReport r, dI salt]) x.1 x.2) (fun _ => []) (fun x => (fun (r : TReport) (salt : Int) => smR r) x.1 x.2) (fun x => (fun (r : TReport) (salt : Int) => (.own (0, 1) 1 0 (mHintsFor r salt).length : D)) x.1 x.2) (fun x => (fun (r : TReport) (salt : Int) => [((0, 1), .arr false 1 (dI 0) (ML dI (mHintsFor r salt)))]) x.1 x.2)
@[simp] theorem c77_f : c77.f = 77 := rfl
@[simp] theorem c77_own : c77.own = false := rfl
theorem c77_inj : ∀ u_ v_ : TReport × Int, ((fun x => (fun (r : TReport) (salt : Int) => [encTReport r, dI salt]) x.1 x.2) u_).map nz = ((fun x => (fun (r : TReport) (salt : Int) => [encTReport r, dI salt]) x.1 x.2) v_).map nz → u_ = v_ := by
  intro u_ v_ h
  obtain ⟨⟨r_Id, r_Kind, r_Colours, r_SizeLow, r_SizeHigh, r_Places, ⟨r_Span_From, r_Span_Until⟩⟩, salt⟩ := u_
  obtain ⟨⟨r_Id', r_Kind', r_Colours', r_SizeLow', r_SizeHigh', r_Places', ⟨r_Span_From', r_Span_Until'⟩⟩, salt'⟩ := v_
  simp [nz_lit, nz1_lit, nz_agg, nz_sl, nz1_sl, encLI, encTReport, encTSpan] at h
  first | (simp [h]; done) | (obtain ⟨⟩ := h; simp_all; done) | simp_all
@[simp] theorem c77_fn (r_Id : Int) (r_Kind : Int) (r_Colours : List Int) (r_SizeLow : Int) (r_SizeHigh : Int) (r_Places : List Int) (r_Span_From : Int) (r_Span_Until : Int) (salt : Int) : c77.fn [.agg [.lit (.int .i64 r_Id), .lit (.int .i64 r_Kind), .sl false 1 (.lit (.int .i64 0)) (ML dI r_Colours), .lit (.int .i64 r_SizeLow), .lit (.int .i64 r_SizeHigh), .sl false 1 (.lit (.int .i64 0)) (ML dI r_Places), .lit (.int .i64 r_Span_From), .lit (.int .i64 r_Span_Until)], .lit (.int .i64 salt)] [] = some ((fun (r : TReport) (salt : Int) => smR r) ⟨r_Id, r_Kind, r_Colours, r_SizeLow, r_SizeHigh, r_Places, ⟨r_Span_From, r_Span_Until⟩⟩ salt, (fun (r : TReport) (salt : Int) => (.own (0, 1) 1 0 (mHintsFor r salt).length : D)) ⟨r_Id, r_Kind, r_Colours, r_SizeLow, r_SizeHigh, r_Places, ⟨r_Span_From, r_Span_Until⟩⟩ salt, (fun (r : TReport) (salt : Int) => [((0, 1), .arr false 1 (dI 0) (ML dI (mHintsFor r salt)))]) ⟨r_Id, r_Kind, r_Colours, r_SizeLow, r_SizeHigh, r_Places, ⟨r_Span_From, r_Span_Until⟩⟩ salt) :=
  mkCon_fn (fun x y h _ => c77_inj x y h) ((⟨r_Id, r_Kind, r_Colours, r_SizeLow, r_SizeHigh, r_Places, ⟨r_Span_From, r_Span_Until⟩⟩, salt) : TReport × Int) (by simp [nz, nz1, ML_nil, encLI, encTReport, encTSpan]) rfl
theorem c77_pc (r : TReport) (salt : Int) (hpre : smR r) : PCo Try.prog 77 [encTReport r, dI salt] (Tab.of []) (.own (0, 1) 1 0 (mHintsFor r salt).length) (Tab.of [((0, 1), .arr false 1 (dI 0) (ML dI (mHintsFor r salt)))]) := by
  refine pco_of_run [] (E := ⟨[c70, c87, c106, c107], [], []⟩) (m := false) (base := 0) (Env.ok_cons c70_ok (Env.ok_cons c87_ok (Env.ok_cons c106_ok (Env.ok_cons c107_ok Env.ok_nil)))) G_ok mix 300 6 Try.func77 (by kernel_rfl) rfl (by kernel_rfl) (by kernel_rfl) rfl ?_
  simp [Try.f77]
  simp at hpre
  cases hc : mIsReport r with
  | false =>
    have hm : mHintsFor r salt = [] := by rw [mHintsFor, hc]; rfl
    rw [hm]
    refine loop_unroll 400 ?_
    simp [hc, hpre]
  | true =>
    have hm : mHintsFor r salt = mSetP (allH r salt 8) := by rw [mHintsFor, hc]; rfl
    have hz := rep_sizes hc
    rw [hm]
    refine loop_inv (fun k : Nat => k ≤ 8) (fun k => [(1, dI salt), (2, .ptr (0, 1) 0), (5, .own (1, 1) 1 0 (mSetP (allH r salt k)).length), (6, dI k)]) (fun k => [((0, 1), .box (encTReport r)), ((1, 1), .arr false 1 (dI 0) (ML dI (mSetP (allH r salt k))))]) 2 (fun k => 8 - k) 0 400 (by simp) (by simp) (by simp [allH, mSetP]) ?_
    intro k hk
    have hl1 := mSetP_len (allH r salt k)
    have hl2 : (allH r salt k).length ≤ 8 * 51 := Nat.le_trans (allH_len r salt k) (Nat.mul_le_mul hk hz.2.2.2.2)
    simp [hpre, hc]
    refine ⟨fun hlt => ⟨fun h0 hn => ?_, fun ha => ?_⟩, fun hge => ?_⟩
    · have hb : mAllows r.Colours k = false := by simp [mAllows, hn]; intro e; rw [e] at h0; simp at h0
      refine ⟨by omega, Again.mk (k + 1) (by omega) (by simp [allH_no hb]) (by first | omega | (simp; omega))⟩
    · have hb : mAllows r.Colours k = true := by
        by_cases h0 : r.Colours.length = 0
        · simp [mAllows, h0]
        · simp [mAllows, ha (by omega)]
      refine ⟨by simp only [loN] at hz; omega, ?_⟩
      refine loop_inv (fun i : Nat => i ≤ cN r) (fun i => [(1, dI salt), (2, .ptr (0, 1) 0), (5, .own (1, 1) 1 0 (mSetP (allH r salt k ++ rowH r salt k i)).length), (6, dI k), (7, dI (loN r + i))]) (fun i => [((0, 1), .box (encTReport r)), ((1, 1), .arr false 1 (dI 0) (ML dI (mSetP (allH r salt k ++ rowH r salt k i))))]) 2 (fun i => cN r - i) 0 400 (by simp) (by simp) (by simp [rowH, loN]) ?_
      intro i hi
      have hrs := rowH_at r salt k i
      have hcn : cN r = (r.SizeHigh.tdiv 10 + 1 - loN r).toNat := rfl
      have hg : gF r salt k (loN r + i) = mHintOf ⟨0, r.Kind, k, 10 * (loN r + i), 0⟩ salt := by rw [gF, Int.mul_comm]
      have hl3 := mSetP_len (allH r salt k ++ rowH r salt k i)
      have hl4 := rowH_len r salt k i
      rw [List.length_append] at hl3
      simp
      refine ⟨by omega, fun hle => ?_, fun hgt => ?_⟩
      · refine ⟨⟨by omega, by omega⟩, by omega, Again.mk (i + 1) (by omega) (by simp [hrs, ← List.append_assoc, mSetP_snoc, hg, Int.add_assoc]) (by first | omega | (simp; omega))⟩
      · have : i = cN r := by omega
        subst this
        refine ⟨by omega, Again.mk (k + 1) (by omega) (by simp [allH_yes hb]) (by first | omega | (simp; omega))⟩
    · have : k = 8 := by omega
      subst this
      simp
theorem c77_ok : c77.ok Try.prog := mkCon_ok fun ⟨r, salt⟩ hpre => c77_pc r salt hpre
end Go.Proofs.Ytnghehfdclhfdaa
