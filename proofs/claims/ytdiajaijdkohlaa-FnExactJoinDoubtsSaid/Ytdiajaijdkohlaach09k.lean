/- Contracts of the functions that the laws run. -/
import Derived.Test.Ytdiajaijdkohlaach09j
import Derived.Test.YtdiajaijdkohlaaEngB
namespace Go.Proofs.Ytdiajaijdkohlaa
open Go Go.Eng
set_option linter.unusedSimpArgs false
set_option linter.unusedVariables false
set_option maxRecDepth 10000
set_option maxHeartbeats 1000000
/-- loop.example/g03007/laws.toDoubt -/
noncomputable def c11f : Con := mkCon 11 false (α := TDoubt) (fun x => (fun (r : TDoubt) => [encTDoubt r]) x) (fun _ => []) (fun x => (fun (r : TDoubt) => smD r) x) (fun x => (fun (r : TDoubt) => (.agg [.own (0, 1) 1 0 r.Colours.length, dI r.Size, .own (1, 1) 1 0 r.Places.length, dI r.Hours] : D)) x) (fun x => (fun (r : TDoubt) => [((0, 1), .arr false 1 (dI 0) (ML dI r.Colours)), ((1, 1), .arr false 1 (dI 0) (ML dI r.Places))]) x)
@[simp] theorem c11f_f : c11f.f = 11 := rfl
@[simp] theorem c11f_own : c11f.own = false := rfl
theorem c11f_inj : ∀ u_ v_ : TDoubt, ((fun x => (fun (r : TDoubt) => [encTDoubt r]) x) u_).map nz = ((fun x => (fun (r : TDoubt) => [encTDoubt r]) x) v_).map nz → u_ = v_ := by
  intro u_ v_ h
  obtain ⟨r_Colours, r_Size, r_Places, r_Hours⟩ := u_
  obtain ⟨r_Colours', r_Size', r_Places', r_Hours'⟩ := v_
  simp [nz_lit, nz1_lit, nz_agg, nz_sl, nz1_sl, encLI, encTDoubt] at h
  first | (simp [h]; done) | (obtain ⟨⟩ := h; simp_all; done) | simp_all
@[simp] theorem c11f_fn (r_Colours : List Int) (r_Size : Int) (r_Places : List Int) (r_Hours : Int) : c11f.fn [.agg [.sl false 1 (.lit (.int .i64 0)) (ML dI r_Colours), .lit (.int .i64 r_Size), .sl false 1 (.lit (.int .i64 0)) (ML dI r_Places), .lit (.int .i64 r_Hours)]] [] = some ((fun (r : TDoubt) => smD r) ⟨r_Colours, r_Size, r_Places, r_Hours⟩, (fun (r : TDoubt) => (.agg [.own (0, 1) 1 0 r.Colours.length, dI r.Size, .own (1, 1) 1 0 r.Places.length, dI r.Hours] : D)) ⟨r_Colours, r_Size, r_Places, r_Hours⟩, (fun (r : TDoubt) => [((0, 1), .arr false 1 (dI 0) (ML dI r.Colours)), ((1, 1), .arr false 1 (dI 0) (ML dI r.Places))]) ⟨r_Colours, r_Size, r_Places, r_Hours⟩) :=
  mkCon_fn (fun x y h _ => c11f_inj x y h) (⟨r_Colours, r_Size, r_Places, r_Hours⟩ : TDoubt) (by simp [nz, nz1, ML_nil, encLI, encTDoubt]) rfl
theorem c11f_pc (r : TDoubt) (hpre : smD r) : PCo Try.prog 11 [encTDoubt r] (Tab.of []) (.agg [.own (0, 1) 1 0 r.Colours.length, dI r.Size, .own (1, 1) 1 0 r.Places.length, dI r.Hours]) (Tab.of [((0, 1), .arr false 1 (dI 0) (ML dI r.Colours)), ((1, 1), .arr false 1 (dI 0) (ML dI r.Places))]) := by
  obtain ⟨r_Colours, r_Size, r_Places, r_Hours⟩ := r
  refine pco_of_run [] (E := ⟨[c47], [], []⟩) (m := false) (base := 0) (Env.ok_cons c47_ok Env.ok_nil) G_ok mix 300 6 Try.func11 (by kernel_rfl) rfl (by kernel_rfl) (by kernel_rfl) rfl ?_
  simp [Try.f11]
  simp at hpre
  exact hpre
theorem c11f_ok : c11f.ok Try.prog := mkCon_ok fun r hpre => c11f_pc r hpre
/-- loop.example/g03007/laws.markDoubt -/
noncomputable def c15 : Con := mkCon 15 true (α := TDoubt × Int) (fun x => (fun (r : TDoubt) (k : Int) => ([.agg [.own (0, 0) 1 0 r.Colours.length, dI r.Size, .own (1, 0) 1 0 r.Places.length, dI r.Hours], dI k] : List D)) x.1 x.2) (fun x => (fun (r : TDoubt) (k : Int) => ([((0, 0), .arr false 1 (dI 0) (ML dI r.Colours)), ((1, 0), .arr false 1 (dI 0) (ML dI r.Places))] : List (Nm × OO))) x.1 x.2) (fun x => (fun (r : TDoubt) (k : Int) => r.Colours.length ≤ 1099511627776 ∧ r.Places.length ≤ 1099511627776 ∧ 0 ≤ k ∧ k ≤ 1099511627776) x.1 x.2) (fun x => (fun (r : TDoubt) (k : Int) => (dI (k + r.Colours.length + r.Places.length) : D)) x.1 x.2) (fun x => (fun (r : TDoubt) (k : Int) => ([((0, 0), .arr false 1 (dI 0) (ML dI (mkL mk_I 1 k r.Colours.length))), ((1, 0), .arr false 1 (dI 0) (ML dI (mkL mk_I 1 (k + r.Colours.length) r.Places.length)))] : List (Nm × OO))) x.1 x.2)
@[simp] theorem c15_f : c15.f = 15 := rfl
@[simp] theorem c15_own : c15.own = true := rfl
theorem c15_inj : ∀ u_ v_ : TDoubt × Int, ((fun x => (fun (r : TDoubt) (k : Int) => ([.agg [.own (0, 0) 1 0 r.Colours.length, dI r.Size, .own (1, 0) 1 0 r.Places.length, dI r.Hours], dI k] : List D)) x.1 x.2) u_).map nz = ((fun x => (fun (r : TDoubt) (k : Int) => ([.agg [.own (0, 0) 1 0 r.Colours.length, dI r.Size, .own (1, 0) 1 0 r.Places.length, dI r.Hours], dI k] : List D)) x.1 x.2) v_).map nz → (fun x => (fun (r : TDoubt) (k : Int) => ([((0, 0), .arr false 1 (dI 0) (ML dI r.Colours)), ((1, 0), .arr false 1 (dI 0) (ML dI r.Places))] : List (Nm × OO))) x.1 x.2) u_ = (fun x => (fun (r : TDoubt) (k : Int) => ([((0, 0), .arr false 1 (dI 0) (ML dI r.Colours)), ((1, 0), .arr false 1 (dI 0) (ML dI r.Places))] : List (Nm × OO))) x.1 x.2) v_ → u_ = v_ := by
  intro u_ v_ h h2_
  obtain ⟨⟨r_Colours, r_Size, r_Places, r_Hours⟩, k⟩ := u_
  obtain ⟨⟨r_Colours', r_Size', r_Places', r_Hours'⟩, k'⟩ := v_
  simp [nz_lit, nz1_lit, nz_agg, nz_sl, nz1_sl, nz_sx, nz_el, nz1_el, nz_own, nz1_own, nz_ptr, nz_fn, nz_iface] at h h2_
  first | (simp [h, h2_]; done) | (obtain ⟨h3_, h4_⟩ := List.append_inj h2_ h.1; simp_all; done) | simp_all | grind
@[simp] theorem c15_fn (r_Colours : List Int) (r_Size : Int) (r_Places : List Int) (r_Hours : Int) (k : Int) : c15.fn ([.agg [.own (0, 0) 1 0 (⟨r_Colours, r_Size, r_Places, r_Hours⟩ : TDoubt).Colours.length, dI (⟨r_Colours, r_Size, r_Places, r_Hours⟩ : TDoubt).Size, .own (1, 0) 1 0 (⟨r_Colours, r_Size, r_Places, r_Hours⟩ : TDoubt).Places.length, dI (⟨r_Colours, r_Size, r_Places, r_Hours⟩ : TDoubt).Hours], dI k]) ([((0, 0), .arr false 1 (dI 0) (ML dI (⟨r_Colours, r_Size, r_Places, r_Hours⟩ : TDoubt).Colours)), ((1, 0), .arr false 1 (dI 0) (ML dI (⟨r_Colours, r_Size, r_Places, r_Hours⟩ : TDoubt).Places))]) = some ((⟨r_Colours, r_Size, r_Places, r_Hours⟩ : TDoubt).Colours.length ≤ 1099511627776 ∧ (⟨r_Colours, r_Size, r_Places, r_Hours⟩ : TDoubt).Places.length ≤ 1099511627776 ∧ 0 ≤ k ∧ k ≤ 1099511627776, dI (k + (⟨r_Colours, r_Size, r_Places, r_Hours⟩ : TDoubt).Colours.length + (⟨r_Colours, r_Size, r_Places, r_Hours⟩ : TDoubt).Places.length), [((0, 0), .arr false 1 (dI 0) (ML dI (mkL mk_I 1 k (⟨r_Colours, r_Size, r_Places, r_Hours⟩ : TDoubt).Colours.length))), ((1, 0), .arr false 1 (dI 0) (ML dI (mkL mk_I 1 (k + (⟨r_Colours, r_Size, r_Places, r_Hours⟩ : TDoubt).Colours.length) (⟨r_Colours, r_Size, r_Places, r_Hours⟩ : TDoubt).Places.length)))]) :=
  mkCon_fn c15_inj ((⟨r_Colours, r_Size, r_Places, r_Hours⟩, k) : TDoubt × Int) rfl rfl
theorem c15_pc (r : TDoubt) (k : Int) (hpre : r.Colours.length ≤ 1099511627776 ∧ r.Places.length ≤ 1099511627776 ∧ 0 ≤ k ∧ k ≤ 1099511627776) : PCo Try.prog 15 ([.agg [.own (0, 0) 1 0 r.Colours.length, dI r.Size, .own (1, 0) 1 0 r.Places.length, dI r.Hours], dI k]) (Tab.of ([((0, 0), .arr false 1 (dI 0) (ML dI r.Colours)), ((1, 0), .arr false 1 (dI 0) (ML dI r.Places))])) (dI (k + r.Colours.length + r.Places.length)) (Tab.of ([((0, 0), .arr false 1 (dI 0) (ML dI (mkL mk_I 1 k r.Colours.length))), ((1, 0), .arr false 1 (dI 0) (ML dI (mkL mk_I 1 (k + r.Colours.length) r.Places.length)))])) := by
  refine pco_of_run [] (E := ⟨[c31], [], []⟩) (m := false) (base := 0) (Env.ok_cons c31_ok Env.ok_nil) G_ok mix 300 6 Try.func15 (by kernel_rfl) rfl (by kernel_rfl) (by kernel_rfl) rfl ?_
  simp [Try.f15]
  obtain ⟨h1, h2, h3, h4⟩ := hpre
  repeat' (first | omega | assumption | refine And.intro ?_ ?_ | intro _)
theorem c15_ok : c15.ok Try.prog := mkCon_ok fun ⟨r, k⟩ hpre => c15_pc r k hpre
@[simp] theorem markD_fn {sz hr k : Int} {c p : List Int} : c15.fn [.agg [.own (0, 0) 1 0 c.length, .lit (.int .i64 sz), .own (1, 0) 1 0 p.length, .lit (.int .i64 hr)], .lit (.int .i64 k)] [((0, 0), .arr false 1 (.lit (.int .i64 0)) (ML dI c)), ((1, 0), .arr false 1 (.lit (.int .i64 0)) (ML dI p))] = some (c.length ≤ 1099511627776 ∧ p.length ≤ 1099511627776 ∧ 0 ≤ k ∧ k ≤ 1099511627776, dI (k + c.length + p.length), [((0, 0), .arr false 1 (dI 0) (ML dI (mkL mk_I 1 k c.length))), ((1, 0), .arr false 1 (dI 0) (ML dI (mkL mk_I 1 (k + c.length) p.length)))]) := c15_fn c sz p hr k
def hD (d : TDoubt) (k : Int) : Int := if d.Colours = mkL mk_I 1 k d.Colours.length then (if d.Places = mkL mk_I 1 (k + d.Colours.length) d.Places.length then k + d.Colours.length + d.Places.length else -1) else -1
/-- loop.example/g03007/laws.heldDoubt -/
noncomputable def c20 : Con := mkCon 20 false (α := TDoubt × Int) (fun x => (fun (d : TDoubt) (k : Int) => [encTDoubt d, dI k]) x.1 x.2) (fun _ => []) (fun x => (fun (d : TDoubt) (k : Int) => smD d ∧ 0 ≤ k ∧ k ≤ 1099511627776) x.1 x.2) (fun x => (fun (d : TDoubt) (k : Int) => (dI (hD d k) : D)) x.1 x.2) (fun x => (fun (d : TDoubt) (k : Int) => []) x.1 x.2)
@[simp] theorem c20_f : c20.f = 20 := rfl
@[simp] theorem c20_own : c20.own = false := rfl
theorem c20_inj : ∀ u_ v_ : TDoubt × Int, ((fun x => (fun (d : TDoubt) (k : Int) => [encTDoubt d, dI k]) x.1 x.2) u_).map nz = ((fun x => (fun (d : TDoubt) (k : Int) => [encTDoubt d, dI k]) x.1 x.2) v_).map nz → u_ = v_ := by
  intro u_ v_ h
  obtain ⟨⟨d_Colours, d_Size, d_Places, d_Hours⟩, k⟩ := u_
  obtain ⟨⟨d_Colours', d_Size', d_Places', d_Hours'⟩, k'⟩ := v_
  simp [nz_lit, nz1_lit, nz_agg, nz_sl, nz1_sl, encLI, encTDoubt] at h
  first | (simp [h]; done) | (obtain ⟨⟩ := h; simp_all; done) | simp_all
@[simp] theorem c20_fn (d_Colours : List Int) (d_Size : Int) (d_Places : List Int) (d_Hours : Int) (k : Int) : c20.fn [.agg [.sl false 1 (.lit (.int .i64 0)) (ML dI d_Colours), .lit (.int .i64 d_Size), .sl false 1 (.lit (.int .i64 0)) (ML dI d_Places), .lit (.int .i64 d_Hours)], .lit (.int .i64 k)] [] = some ((fun (d : TDoubt) (k : Int) => smD d ∧ 0 ≤ k ∧ k ≤ 1099511627776) ⟨d_Colours, d_Size, d_Places, d_Hours⟩ k, (fun (d : TDoubt) (k : Int) => (dI (hD d k) : D)) ⟨d_Colours, d_Size, d_Places, d_Hours⟩ k, (fun (d : TDoubt) (k : Int) => []) ⟨d_Colours, d_Size, d_Places, d_Hours⟩ k) :=
  mkCon_fn (fun x y h _ => c20_inj x y h) ((⟨d_Colours, d_Size, d_Places, d_Hours⟩, k) : TDoubt × Int) (by simp [nz, nz1, ML_nil, encLI, encTDoubt]) rfl
theorem c20_pc (d : TDoubt) (k : Int) (hpre : smD d ∧ 0 ≤ k ∧ k ≤ 1099511627776) : PCo Try.prog 20 [encTDoubt d, dI k] (Tab.of []) (dI (hD d k)) (Tab.of []) := by
  obtain ⟨d_Colours, d_Size, d_Places, d_Hours⟩ := d
  refine pco_of_run [] (E := ⟨[c32], [], []⟩) (m := false) (base := 0) (Env.ok_cons c32_ok Env.ok_nil) G_ok mix 300 6 Try.func20 (by kernel_rfl) rfl (by kernel_rfl) (by kernel_rfl) rfl ?_
  simp [Try.f20]
  obtain ⟨⟨h1, h2⟩, h3, h4⟩ := hpre
  simp at h1 h2
  by_cases e1 : d_Colours = mkL mk_I 1 k d_Colours.length
  · rw [if_pos e1]
    by_cases e2 : d_Places = mkL mk_I 1 (k + d_Colours.length) d_Places.length
    · rw [if_pos e2]
      have e3 : hD ⟨d_Colours, d_Size, d_Places, d_Hours⟩ k = k + d_Colours.length + d_Places.length := by simp only [hD]; rw [if_pos e1, if_pos e2]
      rw [e3]
      repeat' (first | omega | refine And.intro ?_ ?_ | intro _)
    · rw [if_neg e2]
      have e3 : hD ⟨d_Colours, d_Size, d_Places, d_Hours⟩ k = -1 := by simp only [hD]; rw [if_pos e1, if_neg e2]
      rw [e3]
      repeat' (first | omega | refine And.intro ?_ ?_ | intro _)
  · rw [if_neg e1]
    have e3 : hD ⟨d_Colours, d_Size, d_Places, d_Hours⟩ k = -1 := by simp only [hD]; rw [if_neg e1]
    rw [e3]
    repeat' (first | omega | refine And.intro ?_ ?_ | intro _)
theorem c20_ok : c20.ok Try.prog := mkCon_ok fun ⟨d, k⟩ hpre => c20_pc d k hpre
@[simp] theorem hD_mark {n m : Nat} {sz hr k : Int} : hD ⟨mkL mk_I 1 k n, sz, mkL mk_I 1 (k + n) m, hr⟩ k = k + n + m := by
  simp [hD]
theorem jD_len (a b : TDoubt) : (jD a b).Colours.length ≤ a.Colours.length + b.Colours.length ∧ (jD a b).Places.length ≤ a.Places.length + b.Places.length := by
  have q1 := mOnce_le a.Colours b.Colours
  have q2 := mOnce_le a.Places b.Places
  rw [jD]; split
  · exact ⟨q1, q2⟩
  · simp
/-- loop.example/g03007/laws.FnExactJoinDoubts -/
theorem law4 (a : TDoubt) (wa : wfTDoubt a) (b : TDoubt) (wb : wfTDoubt b) : PCo Try.prog 4 [encTDoubt a, encTDoubt b] (Tab.of []) (dB true) (Tab.of []) := by
  obtain ⟨a_Colours, a_Size, a_Places, a_Hours⟩ := a
  obtain ⟨b_Colours, b_Size, b_Places, b_Hours⟩ := b
  refine pco_of_run [1008, 1014, 1016, 1031, 2000014, 7000011] (E := ⟨[c8, c11f, c14, c15, c18, c19, c20, c11], [], []⟩) (m := false) (base := 0) (Env.ok_cons c8_ok (Env.ok_cons c11f_ok (Env.ok_cons c14_ok (Env.ok_cons c15_ok (Env.ok_cons c18_ok (Env.ok_cons c19_ok (Env.ok_cons c20_ok (Env.ok_cons c11_ok Env.ok_nil)))))))) G_ok mix 400 6 Try.func4 (by kernel_rfl) rfl (by kernel_rfl) (by kernel_rfl) rfl ?_
  simp (config := {maxSteps := 3000000}) [Try.f4]
  have h1 := wfD_len wa
  have h2 := wfD_len wb
  simp at h1 h2
  have hj := jD_len ⟨a_Colours, a_Size, a_Places, a_Hours⟩ ⟨b_Colours, b_Size, b_Places, b_Hours⟩
  simp only at hj
  refine ⟨h1, fun h => ?_⟩
  have h3 := szD_len h
  simp only at h3
  refine ⟨⟨h2, h, by omega⟩, fun h' => ?_⟩
  have h4 := szD_len h'
  simp only at h4
  repeat' (first | omega | assumption | refine And.intro ?_ ?_ | intro _)
theorem law4_pc (D0 : D) (h0 : Sh G 9 28 D0) (D1 : D) (h1 : Sh G 9 28 D1) : PC Try.prog 4 [D0, D1] (dB true) [] := by
  obtain ⟨a, rfl, wa⟩ := sh28 (n := 6) h0
  obtain ⟨b, rfl, wb⟩ := sh28 (n := 6) h1
  exact law4 a wa b wb

end Go.Proofs.Ytdiajaijdkohlaa
