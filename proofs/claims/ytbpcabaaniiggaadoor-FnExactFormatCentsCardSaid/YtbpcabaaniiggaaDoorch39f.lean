/- Contracts of the functions that the laws run. -/
import Derived.Test.YtbpcabaaniiggaaDoorch01f
import Derived.Test.YtbpcabaaniiggaaDoorch04b
import Derived.Test.YtbpcabaaniiggaaDoorEngB
namespace Go.Proofs.YtbpcabaaniiggaaDoor
open Go Go.Eng
set_option linter.unusedSimpArgs false
set_option linter.unusedVariables false
set_option maxRecDepth 10000
set_option maxHeartbeats 1000000
def strOf (l : List Int) : ByteArray := ⟨(l.map fun n => UInt8.ofNat n.toNat).toArray⟩
theorem bytes_back (b : ByteArray) : (bytesI b).map (fun n => UInt8.ofNat n.toNat) = b.data.toList := by
  rw [bytesI, List.map_map, ByteArray.toList_eq]
  apply List.ext_getElem?
  intro i
  simp only [List.getElem?_map]
  cases h : b.data.toList[i]? with
  | none => rfl
  | some c => simp
theorem strOf_app (l : List Int) (b : ByteArray) : strOf (l ++ bytesI b) = strOf l ++ b := by
  apply ByteArray.ext
  apply Array.ext'
  simp only [strOf, List.map_append, bytes_back, ByteArray.data_append, Array.toList_append]
theorem strOf_one (l : List Int) (c : Int) : strOf (l ++ [c]) = strOf l ++ ⟨#[UInt8.ofNat c.toNat]⟩ := by
  apply ByteArray.ext
  apply Array.ext'
  simp [strOf, ByteArray.data_append]
theorem strOf_nil : strOf [] = ⟨#[]⟩ := rfl
def appN (l : List Int) (n : Int) : List Int := l ++ bytesI (mInt n)
theorem appN_len {l : List Int} {n : Int} (h : -9223372036854775808 ≤ n ∧ n ≤ 9223372036854775807) : l.length + 1 ≤ (appN l n).length ∧ (appN l n).length ≤ l.length + 21 := by
  have := mInt_size h
  simp [appN]; omega
theorem strOf_appN (l : List Int) (n : Int) : strOf (appN l n) = strOf l ++ mInt n := strOf_app l (mInt n)
/-- loop.example/g03007/impl.appendNumber -/
noncomputable def c73 : Con := mkCon 73 true (α := (List Int) × Int) (fun x => (fun (l : List Int) (n : Int) => ([.own (0, 0) 1 0 l.length, dI n] : List D)) x.1 x.2) (fun x => (fun (l : List Int) (n : Int) => ([((0, 0), .arr false 1 (dU 0) (ML dU l))] : List (Nm × OO))) x.1 x.2) (fun x => (fun (l : List Int) (n : Int) => l.length ≤ 1099511627776 ∧ -9223372036854775808 ≤ n ∧ n ≤ 9223372036854775807) x.1 x.2) (fun x => (fun (l : List Int) (n : Int) => (.own (0, 1) 1 0 (appN l n).length : D)) x.1 x.2) (fun x => (fun (l : List Int) (n : Int) => ([((0, 1), .arr false 1 (dU 0) (ML dU (appN l n)))] : List (Nm × OO))) x.1 x.2)
@[simp] theorem c73_f : c73.f = 73 := rfl
@[simp] theorem c73_own : c73.own = true := rfl
theorem c73_inj : ∀ u_ v_ : (List Int) × Int, ((fun x => (fun (l : List Int) (n : Int) => ([.own (0, 0) 1 0 l.length, dI n] : List D)) x.1 x.2) u_).map nz = ((fun x => (fun (l : List Int) (n : Int) => ([.own (0, 0) 1 0 l.length, dI n] : List D)) x.1 x.2) v_).map nz → (fun x => (fun (l : List Int) (n : Int) => ([((0, 0), .arr false 1 (dU 0) (ML dU l))] : List (Nm × OO))) x.1 x.2) u_ = (fun x => (fun (l : List Int) (n : Int) => ([((0, 0), .arr false 1 (dU 0) (ML dU l))] : List (Nm × OO))) x.1 x.2) v_ → u_ = v_ := by
  intro u_ v_ h h2_
  obtain ⟨l, n⟩ := u_
  obtain ⟨l', n'⟩ := v_
  simp [nz_lit, nz1_lit, nz_agg, nz_sl, nz1_sl, nz_sx, nz_el, nz1_el, nz_own, nz1_own, nz_ptr, nz_fn, nz_iface] at h h2_
  first | (simp [h, h2_]; done) | (obtain ⟨h3_, h4_⟩ := List.append_inj h2_ h.1; simp_all; done) | simp_all | grind
@[simp] theorem c73_fn (l : List Int) (n : Int) : c73.fn ([.own (0, 0) 1 0 l.length, dI n]) ([((0, 0), .arr false 1 (dU 0) (ML dU l))]) = some (l.length ≤ 1099511627776 ∧ -9223372036854775808 ≤ n ∧ n ≤ 9223372036854775807, .own (0, 1) 1 0 (appN l n).length, [((0, 1), .arr false 1 (dU 0) (ML dU (appN l n)))]) :=
  mkCon_fn c73_inj ((l, n) : (List Int) × Int) rfl rfl
theorem c73_pc (l : List Int) (n : Int) (hpre : l.length ≤ 1099511627776 ∧ -9223372036854775808 ≤ n ∧ n ≤ 9223372036854775807) : PCo Tryd.prog 73 ([.own (0, 0) 1 0 l.length, dI n]) (Tab.of ([((0, 0), .arr false 1 (dU 0) (ML dU l))])) (.own (0, 1) 1 0 (appN l n).length) (Tab.of ([((0, 1), .arr false 1 (dU 0) (ML dU (appN l n)))])) := by
  refine pco_of_run [] (E := ⟨[c15], []⟩) (m := false) (base := 0) (Env.ok_cons c15_ok Env.ok_nil) G_ok mix 300 6 Tryd.func73 (by kernel_rfl) rfl (by kernel_rfl) (by kernel_rfl) rfl ?_
  simp [Tryd.f73]
  have := mInt_size hpre.2
  obtain ⟨pre1, pre2⟩ := hpre
  simp [appN]
  repeat' (first | omega | refine And.intro ?_ ?_ | intro _)
theorem c73_ok : c73.ok Tryd.prog := mkCon_ok fun ⟨l, n⟩ hpre => c73_pc l n hpre
@[simp] theorem c73_nil (n : Int) : c73.fn [.own (0, 0) 1 0 0, .lit (.int .i64 n)] [((0, 0), .arr false 1 (.lit (.int .u8 0)) [])] = some (0 ≤ 1099511627776 ∧ -9223372036854775808 ≤ n ∧ n ≤ 9223372036854775807, .own (0, 1) 1 0 (appN [] n).length, [((0, 1), .arr false 1 (dU 0) (ML dU (appN [] n)))]) :=
  c73_fn (l := []) (n := n)
@[simp] theorem c73_minus (n : Int) : c73.fn [.own (0, 0) 1 0 1, .lit (.int .i64 n)] [((0, 0), .arr false 1 (.lit (.int .u8 0)) [.lit (.int .u8 45)])] = some (1 ≤ 1099511627776 ∧ -9223372036854775808 ≤ n ∧ n ≤ 9223372036854775807, .own (0, 1) 1 0 (appN [45] n).length, [((0, 1), .arr false 1 (dU 0) (ML dU (appN [45] n)))]) :=
  c73_fn (l := [45]) (n := n)
@[simp] theorem c73_dot (l : List Int) (x n : Int) : c73.fn [.own (0, 0) 1 0 (l.length + 1), .lit (.int .i64 n)] [((0, 0), .arr false 1 (dU 0) (ML dU (l ++ [x])))] = some (l.length + 1 ≤ 1099511627776 ∧ -9223372036854775808 ≤ n ∧ n ≤ 9223372036854775807, .own (0, 1) 1 0 (appN (l ++ [x]) n).length, [((0, 1), .arr false 1 (dU 0) (ML dU (appN (l ++ [x]) n)))]) := by
  have h := c73_fn (l := l ++ [x]) (n := n)
  simpa using h
def mC (a : Int) : ByteArray := ((mInt (a / 100) ++ ⟨#[46]⟩) ++ mInt (a / 10 % 10)) ++ mInt (a % 10)
def mCents (c : Int) : ByteArray := if mIn c (-1000000000) 1000000000 then (if c < 0 then ⟨#[45]⟩ ++ mC (-c) else mC c) else ⟨#[]⟩
theorem cents_eqs {a : Int} (h : 0 ≤ a) : a.tdiv 100 = a / 100 ∧ a.tdiv 10 = a / 10 ∧ a.tmod 10 = a % 10 ∧ a.tmod 100 = a % 100 ∧ (a / 10).tmod 10 = a / 10 % 10 ∧ (a % 100).tdiv 10 = a / 10 % 10 := by
  refine ⟨Int.tdiv_eq_ediv_of_nonneg h, Int.tdiv_eq_ediv_of_nonneg h, Int.tmod_eq_emod_of_nonneg h, Int.tmod_eq_emod_of_nonneg h, Int.tmod_eq_emod_of_nonneg (by omega), ?_⟩
  rw [Int.tdiv_eq_ediv_of_nonneg (by omega)]; omega
theorem strOf_minus : strOf [45] = ⟨#[45]⟩ := rfl
theorem app_nil (b : ByteArray) : (⟨#[]⟩ : ByteArray) ++ b = b := by
  apply ByteArray.ext; simp [ByteArray.data_append]
theorem app_assoc (a b c : ByteArray) : (a ++ b) ++ c = a ++ (b ++ c) := by
  apply ByteArray.ext; simp [ByteArray.data_append]
/-- loop.example/g03007/impl.FormatCents -/
noncomputable def c37 : Con := mkCon 37 false (α := Int) (fun x => (fun (c : Int) => [dI c]) x) (fun _ => []) (fun x => (fun (c : Int) => True) x) (fun x => (fun (c : Int) => (dS (mCents c) : D)) x) (fun x => (fun (c : Int) => []) x)
@[simp] theorem c37_f : c37.f = 37 := rfl
@[simp] theorem c37_own : c37.own = false := rfl
theorem c37_inj : ∀ u_ v_ : Int, ((fun x => (fun (c : Int) => [dI c]) x) u_).map nz = ((fun x => (fun (c : Int) => [dI c]) x) v_).map nz → u_ = v_ := by
  intro u_ v_ h
  obtain c := u_
  obtain c' := v_
  simp [nz_lit, nz1_lit, nz_agg, nz_sl, nz1_sl] at h
  first | (simp [h]; done) | (obtain ⟨⟩ := h; simp_all; done) | simp_all
@[simp] theorem c37_fn (c : Int) : c37.fn [.lit (.int .i64 c)] [] = some ((fun (c : Int) => True) c, (fun (c : Int) => (dS (mCents c) : D)) c, (fun (c : Int) => []) c) :=
  mkCon_fn (fun x y h _ => c37_inj x y h) (c : Int) (by simp [nz, nz1, ML_nil]) rfl
theorem c37_pc (c : Int) : PCo Tryd.prog 37 [dI c] (Tab.of []) (dS (mCents c)) (Tab.of []) := by
  refine pco_of_run [] (E := ⟨[c73, c75], []⟩) (m := false) (base := 0) (Env.ok_cons c73_ok (Env.ok_cons c75_ok Env.ok_nil)) G_ok mix 300 6 Tryd.func37 (by kernel_rfl) rfl (by kernel_rfl) (by kernel_rfl) rfl ?_
  by_cases h : mIn c (-1000000000) 1000000000 = true
  · have hb := mIn_iff.1 h
    by_cases h0 : c < 0
    · obtain ⟨a, rfl⟩ : ∃ a, c = -a := ⟨-c, by omega⟩
      have e0 : mCents (-a) = ⟨#[45]⟩ ++ mC a := by rw [mCents, if_pos h, if_pos h0, Int.neg_neg]
      obtain ⟨e1, e2, e3, e4, e5, e6⟩ := cents_eqs (a := a) (by omega)
      have s1 := mInt_size (n := a / 100) (by omega)
      have s2 := mInt_size (n := a / 10 % 10) (by omega)
      have s3 := mInt_size (n := a % 10) (by omega)
      have z1 : (⟨#[45]⟩ : ByteArray).size = 1 := rfl
      have z2 : (⟨#[46]⟩ : ByteArray).size = 1 := rfl
      have l1 := appN_len (l := [45]) (n := a / 100) (by omega)
      have l2 := appN_len (l := appN [45] (a / 100) ++ [46]) (n := a / 10 % 10) (by omega)
      have l3 := appN_len (l := appN (appN [45] (a / 100) ++ [46]) (a / 10 % 10)) (n := a % 10) (by omega)
      have hS : ∀ l, (⟨(l.map fun n : Int => UInt8.ofNat n.toNat).toArray⟩ : ByteArray) = strOf l := fun _ => rfl
      simp only [List.length_append, List.length_singleton] at l1 l2 l3
      have h1 : 0 < a := by omega
      rw [e0]
      simp [Tryd.f37, h, h1, e1, e2, e3, e4, e5, e6, z1, z2]
      repeat' (first | omega | refine And.intro ?_ ?_ | intro _)
      all_goals first
        | (rw [hS]; simp only [strOf_appN, strOf_one, strOf_minus, strOf_nil, app_nil, mC, app_assoc]; rfl)
        | simp only [app_nil, mC, app_assoc]
    · have e0 : mCents c = mC c := by rw [mCents, if_pos h, if_neg h0]
      obtain ⟨e1, e2, e3, e4, e5, e6⟩ := cents_eqs (a := c) (by omega)
      have s1 := mInt_size (n := c / 100) (by omega)
      have s2 := mInt_size (n := c / 10 % 10) (by omega)
      have s3 := mInt_size (n := c % 10) (by omega)
      have z0 : (⟨#[]⟩ : ByteArray).size = 0 := rfl
      have z2 : (⟨#[46]⟩ : ByteArray).size = 1 := rfl
      have l1 := appN_len (l := []) (n := c / 100) (by omega)
      have l2 := appN_len (l := appN [] (c / 100) ++ [46]) (n := c / 10 % 10) (by omega)
      have l3 := appN_len (l := appN (appN [] (c / 100) ++ [46]) (c / 10 % 10)) (n := c % 10) (by omega)
      have hS : ∀ l, (⟨(l.map fun n : Int => UInt8.ofNat n.toNat).toArray⟩ : ByteArray) = strOf l := fun _ => rfl
      simp only [List.length_append, List.length_singleton, List.length_nil] at l1 l2 l3
      rw [e0]
      simp [Tryd.f37, h, h0, e1, e2, e3, e4, e5, e6, z0, z2]
      repeat' (first | omega | refine And.intro ?_ ?_ | intro _)
      all_goals first
        | (rw [hS]; simp only [strOf_appN, strOf_one, strOf_minus, strOf_nil, app_nil, mC, app_assoc]; rfl)
        | simp only [app_nil, mC, app_assoc]
  · simp only [Bool.not_eq_true] at h
    simp [Tryd.f37, h, mCents]
theorem c37_ok : c37.ok Tryd.prog := mkCon_ok fun c hpre => c37_pc c
/-- loop.example/g03007/spec.FormatCents -/
noncomputable def c36 : Con := mkCon 36 false (α := Int) (fun x => (fun (c : Int) => [dI c]) x) (fun _ => []) (fun x => (fun (c : Int) => True) x) (fun x => (fun (c : Int) => (dS (mCents c) : D)) x) (fun x => (fun (c : Int) => []) x)
@[simp] theorem c36_f : c36.f = 36 := rfl
@[simp] theorem c36_own : c36.own = false := rfl
theorem c36_inj : ∀ u_ v_ : Int, ((fun x => (fun (c : Int) => [dI c]) x) u_).map nz = ((fun x => (fun (c : Int) => [dI c]) x) v_).map nz → u_ = v_ := by
  intro u_ v_ h
  obtain c := u_
  obtain c' := v_
  simp [nz_lit, nz1_lit, nz_agg, nz_sl, nz1_sl] at h
  first | (simp [h]; done) | (obtain ⟨⟩ := h; simp_all; done) | simp_all
@[simp] theorem c36_fn (c : Int) : c36.fn [.lit (.int .i64 c)] [] = some ((fun (c : Int) => True) c, (fun (c : Int) => (dS (mCents c) : D)) c, (fun (c : Int) => []) c) :=
  mkCon_fn (fun x y h _ => c36_inj x y h) (c : Int) (by simp [nz, nz1, ML_nil]) rfl
theorem c36_pc (c : Int) : PCo Tryd.prog 36 [dI c] (Tab.of []) (dS (mCents c)) (Tab.of []) := by
  refine pco_of_run [] (E := ⟨[c14, c74], []⟩) (m := false) (base := 0) (Env.ok_cons c14_ok (Env.ok_cons c74_ok Env.ok_nil)) G_ok mix 300 6 Tryd.func36 (by kernel_rfl) rfl (by kernel_rfl) (by kernel_rfl) rfl ?_
  by_cases h : mIn c (-1000000000) 1000000000 = true
  · have hb := mIn_iff.1 h
    by_cases h0 : c < 0
    · obtain ⟨a, rfl⟩ : ∃ a, c = -a := ⟨-c, by omega⟩
      have e0 : mCents (-a) = ⟨#[45]⟩ ++ mC a := by rw [mCents, if_pos h, if_pos h0, Int.neg_neg]
      obtain ⟨e1, e2, e3, e4, e5, e6⟩ := cents_eqs (a := a) (by omega)
      have s1 := mInt_size (n := a / 100) (by omega)
      have s2 := mInt_size (n := a / 10 % 10) (by omega)
      have s3 := mInt_size (n := a % 10) (by omega)
      have z1 : (⟨#[45]⟩ : ByteArray).size = 1 := rfl
      have z2 : (⟨#[46]⟩ : ByteArray).size = 1 := rfl
      have l1 := appN_len (l := [45]) (n := a / 100) (by omega)
      have l2 := appN_len (l := appN [45] (a / 100) ++ [46]) (n := a / 10 % 10) (by omega)
      have l3 := appN_len (l := appN (appN [45] (a / 100) ++ [46]) (a / 10 % 10)) (n := a % 10) (by omega)
      have hS : ∀ l, (⟨(l.map fun n : Int => UInt8.ofNat n.toNat).toArray⟩ : ByteArray) = strOf l := fun _ => rfl
      simp only [List.length_append, List.length_singleton] at l1 l2 l3
      have h1 : 0 < a := by omega
      rw [e0]
      simp [Tryd.f36, h, h1, e1, e2, e3, e4, e5, e6, z1, z2]
      repeat' (first | omega | refine And.intro ?_ ?_ | intro _)
      all_goals first
        | (rw [hS]; simp only [strOf_appN, strOf_one, strOf_minus, strOf_nil, app_nil, mC, app_assoc]; rfl)
        | simp only [app_nil, mC, app_assoc]
    · have e0 : mCents c = mC c := by rw [mCents, if_pos h, if_neg h0]
      obtain ⟨e1, e2, e3, e4, e5, e6⟩ := cents_eqs (a := c) (by omega)
      have s1 := mInt_size (n := c / 100) (by omega)
      have s2 := mInt_size (n := c / 10 % 10) (by omega)
      have s3 := mInt_size (n := c % 10) (by omega)
      have z0 : (⟨#[]⟩ : ByteArray).size = 0 := rfl
      have z2 : (⟨#[46]⟩ : ByteArray).size = 1 := rfl
      have l1 := appN_len (l := []) (n := c / 100) (by omega)
      have l2 := appN_len (l := appN [] (c / 100) ++ [46]) (n := c / 10 % 10) (by omega)
      have l3 := appN_len (l := appN (appN [] (c / 100) ++ [46]) (c / 10 % 10)) (n := c % 10) (by omega)
      have hS : ∀ l, (⟨(l.map fun n : Int => UInt8.ofNat n.toNat).toArray⟩ : ByteArray) = strOf l := fun _ => rfl
      simp only [List.length_append, List.length_singleton, List.length_nil] at l1 l2 l3
      rw [e0]
      simp [Tryd.f36, h, h0, e1, e2, e3, e4, e5, e6, z0, z2]
      repeat' (first | omega | refine And.intro ?_ ?_ | intro _)
      all_goals first
        | (rw [hS]; simp only [strOf_appN, strOf_one, strOf_minus, strOf_nil, app_nil, mC, app_assoc]; rfl)
        | simp only [app_nil, mC, app_assoc]
  · simp only [Bool.not_eq_true] at h
    simp [Tryd.f36, h, mCents]
theorem c36_ok : c36.ok Tryd.prog := mkCon_ok fun c hpre => c36_pc c
/-- loop.example/g03007/laws.FnExactFormatCents -/
theorem law10 (c : Int) (wc : inR .i64 c) : PCo Tryd.prog 10 [dI c] (Tab.of []) (dB true) (Tab.of []) := by
  refine pco_of_run [] (E := ⟨[c36, c37], []⟩) (m := false) (base := 0) (Env.ok_cons c36_ok (Env.ok_cons c37_ok Env.ok_nil)) G_ok mix 400 6 Tryd.func10 (by kernel_rfl) rfl (by kernel_rfl) (by kernel_rfl) rfl ?_
  simp (config := {maxSteps := 3000000}) [Tryd.f10]
  repeat' (first | omega | assumption | refine And.intro ?_ ?_ | intro _)
  all_goals first | omega | grind | (split at * <;> omega)
theorem law10_pc (D0 : D) (h0 : Sh G 9 3 D0) : PC Tryd.prog 10 [D0] (dB true) [] := by
  obtain ⟨c, rfl, wc⟩ := sh3 (n := 8) h0
  exact law10 c wc

end Go.Proofs.YtbpcabaaniiggaaDoor
