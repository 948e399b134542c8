/- Contracts of the functions that the laws run. -/
import Derived.Test.Ytallgbanohpbbaach09r
import Derived.Test.YtallgbanohpbbaarepM
import Derived.Test.YtallgbanohpbbaaEngB
namespace Go.Proofs.Ytallgbanohpbbaa
open Go Go.Eng
set_option linter.unusedSimpArgs false
set_option linter.unusedVariables false
set_option maxRecDepth 10000
set_option maxHeartbeats 1000000
/-- loop.example/g03007/laws.toDoubt -/
noncomputable def c8f : Con := mkCon 8 false (α := TDoubt) (fun x => (fun (r : TDoubt) => [encTDoubt r]) x) (fun _ => []) (fun x => (fun (r : TDoubt) => smD r) x) (fun x => (fun (r : TDoubt) => (.agg [.own (0, 1) 1 0 r.Colours.length, dI r.Size, .own (1, 1) 1 0 r.Places.length, dI r.Hours] : D)) x) (fun x => (fun (r : TDoubt) => [((0, 1), .arr false 1 (dI 0) (ML dI r.Colours)), ((1, 1), .arr false 1 (dI 0) (ML dI r.Places))]) x)
@[simp] theorem c8f_f : c8f.f = 8 := rfl
@[simp] theorem c8f_own : c8f.own = false := rfl
theorem c8f_inj : ∀ u_ v_ : TDoubt, ((fun x => (fun (r : TDoubt) => [encTDoubt r]) x) u_).map nz = ((fun x => (fun (r : TDoubt) => [encTDoubt r]) x) v_).map nz → u_ = v_ := by
  intro u_ v_ h
  obtain ⟨r_Colours, r_Size, r_Places, r_Hours⟩ := u_
  obtain ⟨r_Colours', r_Size', r_Places', r_Hours'⟩ := v_
  simp [nz_lit, nz1_lit, nz_agg, nz_sl, nz1_sl, encLI, encTDoubt] at h
  first | (simp [h]; done) | (obtain ⟨⟩ := h; simp_all; done) | simp_all
@[simp] theorem c8f_fn (r_Colours : List Int) (r_Size : Int) (r_Places : List Int) (r_Hours : Int) : c8f.fn [.agg [.sl false 1 (.lit (.int .i64 0)) (ML dI r_Colours), .lit (.int .i64 r_Size), .sl false 1 (.lit (.int .i64 0)) (ML dI r_Places), .lit (.int .i64 r_Hours)]] [] = some ((fun (r : TDoubt) => smD r) ⟨r_Colours, r_Size, r_Places, r_Hours⟩, (fun (r : TDoubt) => (.agg [.own (0, 1) 1 0 r.Colours.length, dI r.Size, .own (1, 1) 1 0 r.Places.length, dI r.Hours] : D)) ⟨r_Colours, r_Size, r_Places, r_Hours⟩, (fun (r : TDoubt) => [((0, 1), .arr false 1 (dI 0) (ML dI r.Colours)), ((1, 1), .arr false 1 (dI 0) (ML dI r.Places))]) ⟨r_Colours, r_Size, r_Places, r_Hours⟩) :=
  mkCon_fn (fun x y h _ => c8f_inj x y h) (⟨r_Colours, r_Size, r_Places, r_Hours⟩ : TDoubt) (by simp [nz, nz1, ML_nil, encLI, encTDoubt]) rfl
theorem c8f_pc (r : TDoubt) (hpre : smD r) : PCo Try.prog 8 [encTDoubt r] (Tab.of []) (.agg [.own (0, 1) 1 0 r.Colours.length, dI r.Size, .own (1, 1) 1 0 r.Places.length, dI r.Hours]) (Tab.of [((0, 1), .arr false 1 (dI 0) (ML dI r.Colours)), ((1, 1), .arr false 1 (dI 0) (ML dI r.Places))]) := by
  obtain ⟨r_Colours, r_Size, r_Places, r_Hours⟩ := r
  refine pco_of_run [] (E := ⟨[c27], [], []⟩) (m := false) (base := 0) (Env.ok_cons c27_ok Env.ok_nil) G_ok mix 300 6 Try.func8 (by kernel_rfl) rfl (by kernel_rfl) (by kernel_rfl) rfl ?_
  simp [Try.f8]
  simp at hpre
  exact hpre
theorem c8f_ok : c8f.ok Try.prog := mkCon_ok fun r hpre => c8f_pc r hpre
/-- loop.example/g03007/laws.markDoubt -/
noncomputable def c12 : Con := mkCon 12 true (α := TDoubt × Int) (fun x => (fun (r : TDoubt) (k : Int) => ([.agg [.own (0, 0) 1 0 r.Colours.length, dI r.Size, .own (1, 0) 1 0 r.Places.length, dI r.Hours], dI k] : List D)) x.1 x.2) (fun x => (fun (r : TDoubt) (k : Int) => ([((0, 0), .arr false 1 (dI 0) (ML dI r.Colours)), ((1, 0), .arr false 1 (dI 0) (ML dI r.Places))] : List (Nm × OO))) x.1 x.2) (fun x => (fun (r : TDoubt) (k : Int) => r.Colours.length ≤ 1099511627776 ∧ r.Places.length ≤ 1099511627776 ∧ 0 ≤ k ∧ k ≤ 1099511627776) x.1 x.2) (fun x => (fun (r : TDoubt) (k : Int) => (dI (k + r.Colours.length + r.Places.length) : D)) x.1 x.2) (fun x => (fun (r : TDoubt) (k : Int) => ([((0, 0), .arr false 1 (dI 0) (ML dI (mkL mk_I 1 k r.Colours.length))), ((1, 0), .arr false 1 (dI 0) (ML dI (mkL mk_I 1 (k + r.Colours.length) r.Places.length)))] : List (Nm × OO))) x.1 x.2)
@[simp] theorem c12_f : c12.f = 12 := rfl
@[simp] theorem c12_own : c12.own = true := rfl
theorem c12_inj : ∀ u_ v_ : TDoubt × Int, ((fun x => (fun (r : TDoubt) (k : Int) => ([.agg [.own (0, 0) 1 0 r.Colours.length, dI r.Size, .own (1, 0) 1 0 r.Places.length, dI r.Hours], dI k] : List D)) x.1 x.2) u_).map nz = ((fun x => (fun (r : TDoubt) (k : Int) => ([.agg [.own (0, 0) 1 0 r.Colours.length, dI r.Size, .own (1, 0) 1 0 r.Places.length, dI r.Hours], dI k] : List D)) x.1 x.2) v_).map nz → (fun x => (fun (r : TDoubt) (k : Int) => ([((0, 0), .arr false 1 (dI 0) (ML dI r.Colours)), ((1, 0), .arr false 1 (dI 0) (ML dI r.Places))] : List (Nm × OO))) x.1 x.2) u_ = (fun x => (fun (r : TDoubt) (k : Int) => ([((0, 0), .arr false 1 (dI 0) (ML dI r.Colours)), ((1, 0), .arr false 1 (dI 0) (ML dI r.Places))] : List (Nm × OO))) x.1 x.2) v_ → u_ = v_ := by
  intro u_ v_ h h2_
  obtain ⟨⟨r_Colours, r_Size, r_Places, r_Hours⟩, k⟩ := u_
  obtain ⟨⟨r_Colours', r_Size', r_Places', r_Hours'⟩, k'⟩ := v_
  simp [nz_lit, nz1_lit, nz_agg, nz_sl, nz1_sl, nz_sx, nz_el, nz1_el, nz_own, nz1_own, nz_ptr, nz_fn, nz_iface] at h h2_
  first | (simp [h, h2_]; done) | (obtain ⟨h3_, h4_⟩ := List.append_inj h2_ h.1; simp_all; done) | simp_all | grind
@[simp] theorem c12_fn (r_Colours : List Int) (r_Size : Int) (r_Places : List Int) (r_Hours : Int) (k : Int) : c12.fn ([.agg [.own (0, 0) 1 0 (⟨r_Colours, r_Size, r_Places, r_Hours⟩ : TDoubt).Colours.length, dI (⟨r_Colours, r_Size, r_Places, r_Hours⟩ : TDoubt).Size, .own (1, 0) 1 0 (⟨r_Colours, r_Size, r_Places, r_Hours⟩ : TDoubt).Places.length, dI (⟨r_Colours, r_Size, r_Places, r_Hours⟩ : TDoubt).Hours], dI k]) ([((0, 0), .arr false 1 (dI 0) (ML dI (⟨r_Colours, r_Size, r_Places, r_Hours⟩ : TDoubt).Colours)), ((1, 0), .arr false 1 (dI 0) (ML dI (⟨r_Colours, r_Size, r_Places, r_Hours⟩ : TDoubt).Places))]) = some ((⟨r_Colours, r_Size, r_Places, r_Hours⟩ : TDoubt).Colours.length ≤ 1099511627776 ∧ (⟨r_Colours, r_Size, r_Places, r_Hours⟩ : TDoubt).Places.length ≤ 1099511627776 ∧ 0 ≤ k ∧ k ≤ 1099511627776, dI (k + (⟨r_Colours, r_Size, r_Places, r_Hours⟩ : TDoubt).Colours.length + (⟨r_Colours, r_Size, r_Places, r_Hours⟩ : TDoubt).Places.length), [((0, 0), .arr false 1 (dI 0) (ML dI (mkL mk_I 1 k (⟨r_Colours, r_Size, r_Places, r_Hours⟩ : TDoubt).Colours.length))), ((1, 0), .arr false 1 (dI 0) (ML dI (mkL mk_I 1 (k + (⟨r_Colours, r_Size, r_Places, r_Hours⟩ : TDoubt).Colours.length) (⟨r_Colours, r_Size, r_Places, r_Hours⟩ : TDoubt).Places.length)))]) :=
  mkCon_fn c12_inj ((⟨r_Colours, r_Size, r_Places, r_Hours⟩, k) : TDoubt × Int) rfl rfl
theorem c12_pc (r : TDoubt) (k : Int) (hpre : r.Colours.length ≤ 1099511627776 ∧ r.Places.length ≤ 1099511627776 ∧ 0 ≤ k ∧ k ≤ 1099511627776) : PCo Try.prog 12 ([.agg [.own (0, 0) 1 0 r.Colours.length, dI r.Size, .own (1, 0) 1 0 r.Places.length, dI r.Hours], dI k]) (Tab.of ([((0, 0), .arr false 1 (dI 0) (ML dI r.Colours)), ((1, 0), .arr false 1 (dI 0) (ML dI r.Places))])) (dI (k + r.Colours.length + r.Places.length)) (Tab.of ([((0, 0), .arr false 1 (dI 0) (ML dI (mkL mk_I 1 k r.Colours.length))), ((1, 0), .arr false 1 (dI 0) (ML dI (mkL mk_I 1 (k + r.Colours.length) r.Places.length)))])) := by
  refine pco_of_run [] (E := ⟨[c41], [], []⟩) (m := false) (base := 0) (Env.ok_cons c41_ok Env.ok_nil) G_ok mix 300 6 Try.func12 (by kernel_rfl) rfl (by kernel_rfl) (by kernel_rfl) rfl ?_
  simp [Try.f12]
  obtain ⟨h1, h2, h3, h4⟩ := hpre
  repeat' (first | omega | assumption | refine And.intro ?_ ?_ | intro _)
theorem c12_ok : c12.ok Try.prog := mkCon_ok fun ⟨r, k⟩ hpre => c12_pc r k hpre
@[simp] theorem markD_fn {sz hr k : Int} {c p : List Int} : c12.fn [.agg [.own (0, 0) 1 0 c.length, .lit (.int .i64 sz), .own (1, 0) 1 0 p.length, .lit (.int .i64 hr)], .lit (.int .i64 k)] [((0, 0), .arr false 1 (.lit (.int .i64 0)) (ML dI c)), ((1, 0), .arr false 1 (.lit (.int .i64 0)) (ML dI p))] = some (c.length ≤ 1099511627776 ∧ p.length ≤ 1099511627776 ∧ 0 ≤ k ∧ k ≤ 1099511627776, dI (k + c.length + p.length), [((0, 0), .arr false 1 (dI 0) (ML dI (mkL mk_I 1 k c.length))), ((1, 0), .arr false 1 (dI 0) (ML dI (mkL mk_I 1 (k + c.length) p.length)))]) := c12_fn c sz p hr k

theorem rmR_len (f : TFind) (d : TDoubt) (id : Int) : (rmR f d id).Colours.length ≤ d.Colours.length + 1 ∧ (rmR f d id).Places.length ≤ d.Places.length + 1 := by
  have q1 := mOnce_le d.Colours [f.Thing.Colour]
  have q2 := mOnce_le d.Places [f.Place]
  rw [rmR]; split
  · exact ⟨q1, q2⟩
  · simp
/-- loop.example/g03007/laws.FnExactRemember -/
theorem law3 (f : TFind) (wf : wfTFind f) (d : TDoubt) (wd : wfTDoubt d) (id : Int) (wid : inR .i64 id) : PCo Try.prog 3 [encTFind f, encTDoubt d, dI id] (Tab.of []) (dB true) (Tab.of []) := by
  obtain ⟨⟨f_Thing_Id, f_Thing_Kind, f_Thing_Colour, f_Thing_Size, f_Thing_Worth⟩, f_Place, f_At, f_Finder⟩ := f
  obtain ⟨d_Colours, d_Size, d_Places, d_Hours⟩ := d
  refine pco_of_run [1005, 1007, 1010, 1024, 8000009, 2000011, 7000008] (E := ⟨[c5, c6, c7, c8f, c9, c10, c11, c12, c13, c14, c8], [], []⟩) (m := false) (base := 0) (Env.ok_cons c5_ok (Env.ok_cons c6_ok (Env.ok_cons c7_ok (Env.ok_cons c8f_ok (Env.ok_cons c9_ok (Env.ok_cons c10_ok (Env.ok_cons c11_ok (Env.ok_cons c12_ok (Env.ok_cons c13_ok (Env.ok_cons c14_ok (Env.ok_cons c8_ok Env.ok_nil))))))))))) G_ok mix 400 6 Try.func3 (by kernel_rfl) rfl (by kernel_rfl) (by kernel_rfl) rfl ?_
  simp (config := {maxSteps := 3000000}) [Try.f3]
  have h1 := wfD_len wd
  simp at h1
  have hj := rmR_len ⟨⟨f_Thing_Id, f_Thing_Kind, f_Thing_Colour, f_Thing_Size, f_Thing_Worth⟩, f_Place, f_At, f_Finder⟩ ⟨d_Colours, d_Size, d_Places, d_Hours⟩ id
  simp only at hj
  refine ⟨h1, fun h => ?_⟩
  have h3 := szD_len h
  simp only at h3
  repeat' (first | omega | assumption | refine And.intro ?_ ?_ | intro _)
theorem law3_pc (D0 : D) (h0 : Sh G 9 25 D0) (D1 : D) (h1 : Sh G 9 28 D1) (D2 : D) (h2 : Sh G 9 3 D2) : PC Try.prog 3 [D0, D1, D2] (dB true) [] := by
  obtain ⟨f, rfl, wf⟩ := sh25 (n := 6) h0
  obtain ⟨d, rfl, wd⟩ := sh28 (n := 6) h1
  obtain ⟨id, rfl, wid⟩ := sh3 (n := 8) h2
  exact law3 f wf d wd id wid

end Go.Proofs.Ytallgbanohpbbaa
