/- Contracts of the functions that the laws run. -/
import Derived.Test.Ytmbgihklhmhilaach21h
import Derived.Test.Ytmbgihklhmhilaach08d
import Derived.Test.YtmbgihklhmhilaaEngB
namespace Go.Proofs.Ytmbgihklhmhilaa
open Go Go.Eng
set_option linter.unusedSimpArgs false
set_option linter.unusedVariables false
set_option maxRecDepth 10000
set_option maxHeartbeats 1000000
def loN (r : TReport) : Int := r.SizeLow.tdiv 10
def cN (r : TReport) : Nat := (r.SizeHigh.tdiv 10 + 1 - loN r).toNat
def gF (r : TReport) (salt k n : Int) : Int := mHintOf ⟨0, r.Kind, k, n * 10, 0⟩ salt
def rowH (r : TReport) (salt k : Int) (m : Nat) : List Int := (List.range m).map fun (i : Nat) => gF r salt k (loN r + i)
def allH (r : TReport) (salt : Int) : Nat → List Int
  | 0 => []
  | k + 1 => allH r salt k ++ (if mAllows r.Colours k then rowH r salt k (cN r) else [])
theorem rowH_at (r : TReport) (salt k : Int) (m : Nat) : rowH r salt k (m + 1) = rowH r salt k m ++ [gF r salt k (loN r + m)] := by simp [rowH, List.range_succ]
theorem rowH_len (r : TReport) (salt k : Int) (m : Nat) : (rowH r salt k m).length = m := by simp [rowH]
theorem rowH_bd (r : TReport) (salt k : Int) (m : Nat) : bdI (rowH r salt k m) := fun x hx => by
  obtain ⟨f, _, rfl⟩ := List.mem_map.1 hx
  exact mHash_bd _
theorem allH_bd (r : TReport) (salt : Int) : ∀ k, bdI (allH r salt k)
  | 0 => fun x hx => by cases hx
  | k + 1 => fun x hx => by
    simp only [allH] at hx
    rcases List.mem_append.1 hx with h | h
    · exact allH_bd r salt k x h
    · split at h
      · exact rowH_bd _ _ _ _ x h
      · cases h
theorem allH_len (r : TReport) (salt : Int) : ∀ k, (allH r salt k).length ≤ k * cN r
  | 0 => by simp [allH]
  | k + 1 => by
    have := allH_len r salt k
    simp only [allH, List.length_append, Nat.succ_mul]
    split
    · rw [rowH_len]; omega
    · simp; omega
theorem allH_yes {r : TReport} {salt : Int} {k : Nat} (h : mAllows r.Colours k = true) : allH r salt (k + 1) = allH r salt k ++ rowH r salt k (cN r) := by simp [allH, h]
theorem allH_no {r : TReport} {salt : Int} {k : Nat} (h : mAllows r.Colours k = false) : allH r salt (k + 1) = allH r salt k := by simp [allH, h]
def mHintsFor (r : TReport) (salt : Int) : List Int := if mIsReport r then mSetP (allH r salt 8) else []
theorem rep_sizes {r : TReport} (h : mIsReport r = true) : 0 ≤ loN r ∧ loN r ≤ 50 ∧ 0 ≤ r.SizeHigh.tdiv 10 ∧ r.SizeHigh.tdiv 10 ≤ 50 ∧ cN r ≤ 51 := by
  simp only [mIsReport, Bool.and_eq_true, decide_eq_true_eq] at h
  have h1 := h.1.1.1.1.1.2
  have h2 := h.1.1.1.1.2
  have h3 := h.1.1.1.2
  have a := tdiv10_bd r.SizeLow
  have b := tdiv10_bd r.SizeHigh
  simp only [cN, loN]
  omega
theorem mHintsFor_len (r : TReport) (salt : Int) : (mHintsFor r salt).length ≤ 408 := by
  rw [mHintsFor]; split
  · rename_i h
    have h1 := mSetP_len (allH r salt 8)
    have h2 := allH_len r salt 8
    have h3 := rep_sizes h
    omega
  · simp
/-- loop.example/g03007/impl.HintsFor -/
noncomputable def c78 : Con := mkCon 78 false (α := TReport × Int) (fun x => (fun (r : TReport) (salt : Int) => [encTReport r, dI salt]) x.1 x.2) (fun _ => []) (fun x => (fun (r : TReport) (salt : Int) => smR r) x.1 x.2) (fun x => (fun (r : TReport) (salt : Int) => (.own (0, 1) 1 0 (mHintsFor r salt).length : D)) x.1 x.2) (fun x => (fun (r : TReport) (salt : Int) => [((0, 1), .arr false 1 (dI 0) (ML dI (mHintsFor r salt)))]) x.1 x.2)
@[simp] theorem c78_f : c78.f = 78 := rfl
@[simp] theorem c78_own : c78.own = false := rfl
theorem c78_inj : ∀ u_ v_ : TReport × Int, ((fun x => (fun (r : TReport) (salt : Int) => [encTReport r, dI salt]) x.1 x.2) u_).map nz = ((fun x => (fun (r : TReport) (salt : Int) => [encTReport r, dI salt]) x.1 x.2) v_).map nz → u_ = v_ := by
  intro u_ v_ h
  obtain ⟨⟨r_Id, r_Kind, r_Colours, r_SizeLow, r_SizeHigh, r_Places, ⟨r_Span_From, r_Span_Until⟩⟩, salt⟩ := u_
  obtain ⟨⟨r_Id', r_Kind', r_Colours', r_SizeLow', r_SizeHigh', r_Places', ⟨r_Span_From', r_Span_Until'⟩⟩, salt'⟩ := v_
  simp [nz_lit, nz1_lit, nz_agg, nz_sl, nz1_sl, encLI, encTReport, encTSpan] at h
  first | (simp [h]; done) | (obtain ⟨⟩ := h; simp_all; done) | simp_all
@[simp] theorem c78_fn (r_Id : Int) (r_Kind : Int) (r_Colours : List Int) (r_SizeLow : Int) (r_SizeHigh : Int) (r_Places : List Int) (r_Span_From : Int) (r_Span_Until : Int) (salt : Int) : c78.fn [.agg [.lit (.int .i64 r_Id), .lit (.int .i64 r_Kind), .sl false 1 (.lit (.int .i64 0)) (ML dI r_Colours), .lit (.int .i64 r_SizeLow), .lit (.int .i64 r_SizeHigh), .sl false 1 (.lit (.int .i64 0)) (ML dI r_Places), .lit (.int .i64 r_Span_From), .lit (.int .i64 r_Span_Until)], .lit (.int .i64 salt)] [] = some ((fun (r : TReport) (salt : Int) => smR r) ⟨r_Id, r_Kind, r_Colours, r_SizeLow, r_SizeHigh, r_Places, ⟨r_Span_From, r_Span_Until⟩⟩ salt, (fun (r : TReport) (salt : Int) => (.own (0, 1) 1 0 (mHintsFor r salt).length : D)) ⟨r_Id, r_Kind, r_Colours, r_SizeLow, r_SizeHigh, r_Places, ⟨r_Span_From, r_Span_Until⟩⟩ salt, (fun (r : TReport) (salt : Int) => [((0, 1), .arr false 1 (dI 0) (ML dI (mHintsFor r salt)))]) ⟨r_Id, r_Kind, r_Colours, r_SizeLow, r_SizeHigh, r_Places, ⟨r_Span_From, r_Span_Until⟩⟩ salt) :=
  mkCon_fn (fun x y h _ => c78_inj x y h) ((⟨r_Id, r_Kind, r_Colours, r_SizeLow, r_SizeHigh, r_Places, ⟨r_Span_From, r_Span_Until⟩⟩, salt) : TReport × Int) (by simp [nz, nz1, ML_nil, encLI, encTReport, encTSpan]) rfl
theorem c78_pc (r : TReport) (salt : Int) (hpre : smR r) : PCo Try.prog 78 [encTReport r, dI salt] (Tab.of []) (.own (0, 1) 1 0 (mHintsFor r salt).length) (Tab.of [((0, 1), .arr false 1 (dI 0) (ML dI (mHintsFor r salt)))]) := by
  refine pco_of_run [] (E := ⟨[c141, c169, c170, c171, c175, c170], []⟩) (m := false) (base := 0) (Env.ok_cons c141_ok (Env.ok_cons c169_ok (Env.ok_cons c170_ok (Env.ok_cons c171_ok (Env.ok_cons c175_ok (Env.ok_cons c170_ok Env.ok_nil)))))) G_ok mix 300 6 Try.func78 (by kernel_rfl) rfl (by kernel_rfl) (by kernel_rfl) rfl ?_
  simp at hpre
  cases hc : mIsReport r with
  | false =>
    simp [Try.f78, hc, mHintsFor, fit_nil, hpre]
  | true =>
    have hm : mHintsFor r salt = mSetP (allH r salt 8) := by rw [mHintsFor, hc]; rfl
    have hz := rep_sizes hc
    rw [hm]
    simp [Try.f78, hc, hpre]
    refine loop_inv (fun k : Nat => k ≤ 8) (fun k => [(1, dI salt), (2, .ptr (0, 1) 0), (5, .mp (1, 1)), (14, dI k)]) (fun k => [((0, 1), .box (encTReport r)), ((1, 1), .map 0 (keysI (setI (allH r salt k))) (dB false) (allT (setI (allH r salt k))))]) 2 (fun k => 8 - k) 0 400 (by simp) (by simp) (by simp [allH, setI, keysI, allT]) ?_
    intro k hk
    simp [hpre]
    refine ⟨fun hlt => ⟨fun ha => ?_, fun ha => ?_⟩, fun hge => ?_⟩
    · refine ⟨by omega, Again.mk (k + 1) (by omega) (by simp [allH_no ha]) (by first | omega | (simp; omega))⟩
    · refine ⟨by simp only [loN] at hz; omega, ?_⟩
      refine loop_inv (fun i : Nat => i ≤ cN r) (fun i => [(1, dI salt), (2, .ptr (0, 1) 0), (5, .mp (1, 1)), (6, dI k), (7, dI (loN r + i)), (14, dI k)]) (fun i => [((0, 1), .box (encTReport r)), ((1, 1), .map 0 (keysI (setI (allH r salt k ++ rowH r salt k i))) (dB false) (allT (setI (allH r salt k ++ rowH r salt k i))))]) 2 (fun i => cN r - i) 0 400 (by simp) (by simp) (by simp [rowH, loN]) ?_
      intro i hi
      have hrs := rowH_at r salt k i
      have hcn : cN r = (r.SizeHigh.tdiv 10 + 1 - loN r).toNat := rfl
      simp
      refine ⟨by omega, fun hle => ?_, fun hgt => ?_⟩
      · refine ⟨by omega, by omega, Again.mk (i + 1) (by omega) (by simp [hrs, ← List.append_assoc, setI_snoc, gF, Int.add_assoc]) (by first | omega | (simp; omega))⟩
      · have : i = cN r := by omega
        subst this
        refine ⟨by omega, Again.mk (k + 1) (by omega) (by simp [allH_yes ha]) (by first | omega | (simp; omega))⟩
    · have : k = 8 := by omega
      subst this
      have h1 := mSetP_len (allH r salt 8)
      have h2 := allH_len r salt 8
      simp [mSort_set, set_len_eq, fit_set (allH_bd r salt 8)]
      omega
theorem c78_ok : c78.ok Try.prog := mkCon_ok fun ⟨r, salt⟩ hpre => c78_pc r salt hpre
/-- loop.example/g03007/spec.HintsFor -/
noncomputable def c76 : Con := mkCon 76 false (α := TReport × Int) (fun x => (fun (r : TReport) (salt : Int) => [encTReport r, dI salt]) x.1 x.2) (fun _ => []) (fun x => (fun (r : TReport) (salt : Int) => smR r) x.1 x.2) (fun x => (fun (r : TReport) (salt : Int) => (.own (0, 1) 1 0 (mHintsFor r salt).length : D)) x.1 x.2) (fun x => (fun (r : TReport) (salt : Int) => [((0, 1), .arr false 1 (dI 0) (ML dI (mHintsFor r salt)))]) x.1 x.2)
@[simp] theorem c76_f : c76.f = 76 := rfl
@[simp] theorem c76_own : c76.own = false := rfl
theorem c76_inj : ∀ u_ v_ : TReport × Int, ((fun x => (fun (r : TReport) (salt : Int) => [encTReport r, dI salt]) x.1 x.2) u_).map nz = ((fun x => (fun (r : TReport) (salt : Int) => [encTReport r, dI salt]) x.1 x.2) v_).map nz → u_ = v_ := by
  intro u_ v_ h
  obtain ⟨⟨r_Id, r_Kind, r_Colours, r_SizeLow, r_SizeHigh, r_Places, ⟨r_Span_From, r_Span_Until⟩⟩, salt⟩ := u_
  obtain ⟨⟨r_Id', r_Kind', r_Colours', r_SizeLow', r_SizeHigh', r_Places', ⟨r_Span_From', r_Span_Until'⟩⟩, salt'⟩ := v_
  simp [nz_lit, nz1_lit, nz_agg, nz_sl, nz1_sl, encLI, encTReport, encTSpan] at h
  first | (simp [h]; done) | (obtain ⟨⟩ := h; simp_all; done) | simp_all
@[simp] theorem c76_fn (r_Id : Int) (r_Kind : Int) (r_Colours : List Int) (r_SizeLow : Int) (r_SizeHigh : Int) (r_Places : List Int) (r_Span_From : Int) (r_Span_Until : Int) (salt : Int) : c76.fn [.agg [.lit (.int .i64 r_Id), .lit (.int .i64 r_Kind), .sl false 1 (.lit (.int .i64 0)) (ML dI r_Colours), .lit (.int .i64 r_SizeLow), .lit (.int .i64 r_SizeHigh), .sl false 1 (.lit (.int .i64 0)) (ML dI r_Places), .lit (.int .i64 r_Span_From), .lit (.int .i64 r_Span_Until)], .lit (.int .i64 salt)] [] = some ((fun (r : TReport) (salt : Int) => smR r) ⟨r_Id, r_Kind, r_Colours, r_SizeLow, r_SizeHigh, r_Places, ⟨r_Span_From, r_Span_Until⟩⟩ salt, (fun (r : TReport) (salt : Int) => (.own (0, 1) 1 0 (mHintsFor r salt).length : D)) ⟨r_Id, r_Kind, r_Colours, r_SizeLow, r_SizeHigh, r_Places, ⟨r_Span_From, r_Span_Until⟩⟩ salt, (fun (r : TReport) (salt : Int) => [((0, 1), .arr false 1 (dI 0) (ML dI (mHintsFor r salt)))]) ⟨r_Id, r_Kind, r_Colours, r_SizeLow, r_SizeHigh, r_Places, ⟨r_Span_From, r_Span_Until⟩⟩ salt) :=
  mkCon_fn (fun x y h _ => c76_inj x y h) ((⟨r_Id, r_Kind, r_Colours, r_SizeLow, r_SizeHigh, r_Places, ⟨r_Span_From, r_Span_Until⟩⟩, salt) : TReport × Int) (by simp [nz, nz1, ML_nil, encLI, encTReport, encTSpan]) rfl
theorem c76_pc (r : TReport) (salt : Int) (hpre : smR r) : PCo Try.prog 76 [encTReport r, dI salt] (Tab.of []) (.own (0, 1) 1 0 (mHintsFor r salt).length) (Tab.of [((0, 1), .arr false 1 (dI 0) (ML dI (mHintsFor r salt)))]) := by
  refine pco_of_run [] (E := ⟨[c126, c129, c167, c173], []⟩) (m := false) (base := 0) (Env.ok_cons c126_ok (Env.ok_cons c129_ok (Env.ok_cons c167_ok (Env.ok_cons c173_ok Env.ok_nil)))) G_ok mix 300 6 Try.func76 (by kernel_rfl) rfl (by kernel_rfl) (by kernel_rfl) rfl ?_
  simp [Try.f76]
  simp at hpre
  cases hc : mIsReport r with
  | false =>
    have hm : mHintsFor r salt = [] := by rw [mHintsFor, hc]; rfl
    rw [hm]
    refine loop_unroll 400 ?_
    simp [hc, hpre]
  | true =>
    have hm : mHintsFor r salt = mSetP (allH r salt 8) := by rw [mHintsFor, hc]; rfl
    have hz := rep_sizes hc
    rw [hm]
    refine loop_inv (fun k : Nat => k ≤ 8) (fun k => [(1, dI salt), (2, .ptr (0, 1) 0), (5, .own (1, 1) 1 0 (mSetP (allH r salt k)).length), (6, dI k)]) (fun k => [((0, 1), .box (encTReport r)), ((1, 1), .arr false 1 (dI 0) (ML dI (mSetP (allH r salt k))))]) 2 (fun k => 8 - k) 0 400 (by simp) (by simp) (by simp [allH, mSetP]) ?_
    intro k hk
    have hl1 := mSetP_len (allH r salt k)
    have hl2 : (allH r salt k).length ≤ 8 * 51 := Nat.le_trans (allH_len r salt k) (Nat.mul_le_mul hk hz.2.2.2.2)
    simp [hpre, hc]
    refine ⟨fun hlt => ⟨fun h0 hn => ?_, fun ha => ?_⟩, fun hge => ?_⟩
    · have hb : mAllows r.Colours k = false := by simp [mAllows, hn]; intro e; rw [e] at h0; simp at h0
      refine ⟨by omega, Again.mk (k + 1) (by omega) (by simp [allH_no hb]) (by first | omega | (simp; omega))⟩
    · have hb : mAllows r.Colours k = true := by
        by_cases h0 : r.Colours.length = 0
        · simp [mAllows, h0]
        · simp [mAllows, ha (by omega)]
      refine ⟨by simp only [loN] at hz; omega, ?_⟩
      refine loop_inv (fun i : Nat => i ≤ cN r) (fun i => [(1, dI salt), (2, .ptr (0, 1) 0), (5, .own (1, 1) 1 0 (mSetP (allH r salt k ++ rowH r salt k i)).length), (6, dI k), (7, dI (loN r + i))]) (fun i => [((0, 1), .box (encTReport r)), ((1, 1), .arr false 1 (dI 0) (ML dI (mSetP (allH r salt k ++ rowH r salt k i))))]) 2 (fun i => cN r - i) 0 400 (by simp) (by simp) (by simp [rowH, loN]) ?_
      intro i hi
      have hrs := rowH_at r salt k i
      have hcn : cN r = (r.SizeHigh.tdiv 10 + 1 - loN r).toNat := rfl
      have hg : gF r salt k (loN r + i) = mHintOf ⟨0, r.Kind, k, 10 * (loN r + i), 0⟩ salt := by rw [gF, Int.mul_comm]
      have hl3 := mSetP_len (allH r salt k ++ rowH r salt k i)
      have hl4 := rowH_len r salt k i
      rw [List.length_append] at hl3
      simp
      refine ⟨by omega, fun hle => ?_, fun hgt => ?_⟩
      · refine ⟨⟨by omega, by omega⟩, by omega, Again.mk (i + 1) (by omega) (by simp [hrs, ← List.append_assoc, mSetP_snoc, hg, Int.add_assoc]) (by first | omega | (simp; omega))⟩
      · have : i = cN r := by omega
        subst this
        refine ⟨by omega, Again.mk (k + 1) (by omega) (by simp [allH_yes hb]) (by first | omega | (simp; omega))⟩
    · have : k = 8 := by omega
      subst this
      simp
theorem c76_ok : c76.ok Try.prog := mkCon_ok fun ⟨r, salt⟩ hpre => c76_pc r salt hpre
/-- loop.example/g03007/laws.FnExactHintsFor -/
theorem law12 (r : TReport) (wr : wfTReport r) (salt : Int) (wsalt : inR .i64 salt) : PCo Try.prog 12 [encTReport r, dI salt] (Tab.of []) (dB true) (Tab.of []) := by
  obtain ⟨r_Id, r_Kind, r_Colours, r_SizeLow, r_SizeHigh, r_Places, ⟨r_Span_From, r_Span_Until⟩⟩ := r
  refine pco_of_run [1010, 2000037] (E := ⟨[c37, c40, c52, c56, c58, c75, c76, c77f, c78], []⟩) (m := false) (base := 0) (Env.ok_cons c37_ok (Env.ok_cons c40_ok (Env.ok_cons c52_ok (Env.ok_cons c56_ok (Env.ok_cons c58_ok (Env.ok_cons c75_ok (Env.ok_cons c76_ok (Env.ok_cons c77f_ok (Env.ok_cons c78_ok Env.ok_nil))))))))) G_ok mix 400 6 Try.func12 (by kernel_rfl) rfl (by kernel_rfl) (by kernel_rfl) rfl ?_
  simp (config := {maxSteps := 3000000}) [Try.f12]
  have h1 := wfR_len wr
  simp at h1
  have hb := mHintsFor_len ⟨r_Id, r_Kind, r_Colours, r_SizeLow, r_SizeHigh, r_Places, ⟨r_Span_From, r_Span_Until⟩⟩ salt
  refine ⟨h1, fun h => ?_⟩
  have hl := szR_len h
  simp at hl
  repeat' (first | omega | assumption | refine And.intro ?_ ?_ | intro _)
theorem law12_pc (D0 : D) (h0 : Sh G 9 93 D0) (D1 : D) (h1 : Sh G 9 3 D1) : PC Try.prog 12 [D0, D1] (dB true) [] := by
  obtain ⟨r, rfl, wr⟩ := sh93 (n := 6) h0
  obtain ⟨salt, rfl, wsalt⟩ := sh3 (n := 8) h1
  exact law12 r wr salt wsalt

end Go.Proofs.Ytmbgihklhmhilaa
