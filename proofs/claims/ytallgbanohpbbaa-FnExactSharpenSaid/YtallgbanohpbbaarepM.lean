/- Contracts of the functions that the laws run. -/
import Derived.Test.Ytallgbanohpbbaach07
import Derived.Test.YtallgbanohpbbaahelpA
import Derived.Test.YtallgbanohpbbaaEngB
namespace Go.Proofs.Ytallgbanohpbbaa
open Go Go.Eng
set_option linter.unusedSimpArgs false
set_option linter.unusedVariables false
set_option maxRecDepth 10000
set_option maxHeartbeats 1000000
/-- loop.example/g03007/laws.markReport -/
noncomputable def c13 : Con := mkCon 13 true (α := TReport × Int) (fun x => (fun (r : TReport) (k : Int) => ([.agg [dI r.Id, dI r.Kind, .own (0, 0) 1 0 r.Colours.length, dI r.SizeLow, dI r.SizeHigh, .own (1, 0) 1 0 r.Places.length, dI r.Span.From, dI r.Span.Until], dI k] : List D)) x.1 x.2) (fun x => (fun (r : TReport) (k : Int) => ([((0, 0), .arr false 1 (dI 0) (ML dI r.Colours)), ((1, 0), .arr false 1 (dI 0) (ML dI r.Places))] : List (Nm × OO))) x.1 x.2) (fun x => (fun (r : TReport) (k : Int) => r.Colours.length ≤ 1099511627776 ∧ r.Places.length ≤ 1099511627776 ∧ 0 ≤ k ∧ k ≤ 1099511627776) x.1 x.2) (fun x => (fun (r : TReport) (k : Int) => (dI (k + r.Colours.length + r.Places.length) : D)) x.1 x.2) (fun x => (fun (r : TReport) (k : Int) => ([((0, 0), .arr false 1 (dI 0) (ML dI (mkL mk_I 1 k r.Colours.length))), ((1, 0), .arr false 1 (dI 0) (ML dI (mkL mk_I 1 (k + r.Colours.length) r.Places.length)))] : List (Nm × OO))) x.1 x.2)
@[simp] theorem c13_f : c13.f = 13 := rfl
@[simp] theorem c13_own : c13.own = true := rfl
theorem c13_inj : ∀ u_ v_ : TReport × Int, ((fun x => (fun (r : TReport) (k : Int) => ([.agg [dI r.Id, dI r.Kind, .own (0, 0) 1 0 r.Colours.length, dI r.SizeLow, dI r.SizeHigh, .own (1, 0) 1 0 r.Places.length, dI r.Span.From, dI r.Span.Until], dI k] : List D)) x.1 x.2) u_).map nz = ((fun x => (fun (r : TReport) (k : Int) => ([.agg [dI r.Id, dI r.Kind, .own (0, 0) 1 0 r.Colours.length, dI r.SizeLow, dI r.SizeHigh, .own (1, 0) 1 0 r.Places.length, dI r.Span.From, dI r.Span.Until], dI k] : List D)) x.1 x.2) v_).map nz → (fun x => (fun (r : TReport) (k : Int) => ([((0, 0), .arr false 1 (dI 0) (ML dI r.Colours)), ((1, 0), .arr false 1 (dI 0) (ML dI r.Places))] : List (Nm × OO))) x.1 x.2) u_ = (fun x => (fun (r : TReport) (k : Int) => ([((0, 0), .arr false 1 (dI 0) (ML dI r.Colours)), ((1, 0), .arr false 1 (dI 0) (ML dI r.Places))] : List (Nm × OO))) x.1 x.2) v_ → u_ = v_ := by
  intro u_ v_ h h2_
  obtain ⟨⟨r_Id, r_Kind, r_Colours, r_SizeLow, r_SizeHigh, r_Places, ⟨r_Span_From, r_Span_Until⟩⟩, k⟩ := u_
  obtain ⟨⟨r_Id', r_Kind', r_Colours', r_SizeLow', r_SizeHigh', r_Places', ⟨r_Span_From', r_Span_Until'⟩⟩, k'⟩ := v_
  simp [nz_lit, nz1_lit, nz_agg, nz_sl, nz1_sl, nz_sx, nz_el, nz1_el, nz_own, nz1_own, nz_ptr, nz_fn, nz_iface] at h h2_
  first | (simp [h, h2_]; done) | (obtain ⟨h3_, h4_⟩ := List.append_inj h2_ h.1; simp_all; done) | simp_all | grind
@[simp] theorem c13_fn (r_Id : Int) (r_Kind : Int) (r_Colours : List Int) (r_SizeLow : Int) (r_SizeHigh : Int) (r_Places : List Int) (r_Span_From : Int) (r_Span_Until : Int) (k : Int) : c13.fn ([.agg [dI (⟨r_Id, r_Kind, r_Colours, r_SizeLow, r_SizeHigh, r_Places, ⟨r_Span_From, r_Span_Until⟩⟩ : TReport).Id, dI (⟨r_Id, r_Kind, r_Colours, r_SizeLow, r_SizeHigh, r_Places, ⟨r_Span_From, r_Span_Until⟩⟩ : TReport).Kind, .own (0, 0) 1 0 (⟨r_Id, r_Kind, r_Colours, r_SizeLow, r_SizeHigh, r_Places, ⟨r_Span_From, r_Span_Until⟩⟩ : TReport).Colours.length, dI (⟨r_Id, r_Kind, r_Colours, r_SizeLow, r_SizeHigh, r_Places, ⟨r_Span_From, r_Span_Until⟩⟩ : TReport).SizeLow, dI (⟨r_Id, r_Kind, r_Colours, r_SizeLow, r_SizeHigh, r_Places, ⟨r_Span_From, r_Span_Until⟩⟩ : TReport).SizeHigh, .own (1, 0) 1 0 (⟨r_Id, r_Kind, r_Colours, r_SizeLow, r_SizeHigh, r_Places, ⟨r_Span_From, r_Span_Until⟩⟩ : TReport).Places.length, dI (⟨r_Id, r_Kind, r_Colours, r_SizeLow, r_SizeHigh, r_Places, ⟨r_Span_From, r_Span_Until⟩⟩ : TReport).Span.From, dI (⟨r_Id, r_Kind, r_Colours, r_SizeLow, r_SizeHigh, r_Places, ⟨r_Span_From, r_Span_Until⟩⟩ : TReport).Span.Until], dI k]) ([((0, 0), .arr false 1 (dI 0) (ML dI (⟨r_Id, r_Kind, r_Colours, r_SizeLow, r_SizeHigh, r_Places, ⟨r_Span_From, r_Span_Until⟩⟩ : TReport).Colours)), ((1, 0), .arr false 1 (dI 0) (ML dI (⟨r_Id, r_Kind, r_Colours, r_SizeLow, r_SizeHigh, r_Places, ⟨r_Span_From, r_Span_Until⟩⟩ : TReport).Places))]) = some ((⟨r_Id, r_Kind, r_Colours, r_SizeLow, r_SizeHigh, r_Places, ⟨r_Span_From, r_Span_Until⟩⟩ : TReport).Colours.length ≤ 1099511627776 ∧ (⟨r_Id, r_Kind, r_Colours, r_SizeLow, r_SizeHigh, r_Places, ⟨r_Span_From, r_Span_Until⟩⟩ : TReport).Places.length ≤ 1099511627776 ∧ 0 ≤ k ∧ k ≤ 1099511627776, dI (k + (⟨r_Id, r_Kind, r_Colours, r_SizeLow, r_SizeHigh, r_Places, ⟨r_Span_From, r_Span_Until⟩⟩ : TReport).Colours.length + (⟨r_Id, r_Kind, r_Colours, r_SizeLow, r_SizeHigh, r_Places, ⟨r_Span_From, r_Span_Until⟩⟩ : TReport).Places.length), [((0, 0), .arr false 1 (dI 0) (ML dI (mkL mk_I 1 k (⟨r_Id, r_Kind, r_Colours, r_SizeLow, r_SizeHigh, r_Places, ⟨r_Span_From, r_Span_Until⟩⟩ : TReport).Colours.length))), ((1, 0), .arr false 1 (dI 0) (ML dI (mkL mk_I 1 (k + (⟨r_Id, r_Kind, r_Colours, r_SizeLow, r_SizeHigh, r_Places, ⟨r_Span_From, r_Span_Until⟩⟩ : TReport).Colours.length) (⟨r_Id, r_Kind, r_Colours, r_SizeLow, r_SizeHigh, r_Places, ⟨r_Span_From, r_Span_Until⟩⟩ : TReport).Places.length)))]) :=
  mkCon_fn c13_inj ((⟨r_Id, r_Kind, r_Colours, r_SizeLow, r_SizeHigh, r_Places, ⟨r_Span_From, r_Span_Until⟩⟩, k) : TReport × Int) rfl rfl
theorem c13_pc (r : TReport) (k : Int) (hpre : r.Colours.length ≤ 1099511627776 ∧ r.Places.length ≤ 1099511627776 ∧ 0 ≤ k ∧ k ≤ 1099511627776) : PCo Try.prog 13 ([.agg [dI r.Id, dI r.Kind, .own (0, 0) 1 0 r.Colours.length, dI r.SizeLow, dI r.SizeHigh, .own (1, 0) 1 0 r.Places.length, dI r.Span.From, dI r.Span.Until], dI k]) (Tab.of ([((0, 0), .arr false 1 (dI 0) (ML dI r.Colours)), ((1, 0), .arr false 1 (dI 0) (ML dI r.Places))])) (dI (k + r.Colours.length + r.Places.length)) (Tab.of ([((0, 0), .arr false 1 (dI 0) (ML dI (mkL mk_I 1 k r.Colours.length))), ((1, 0), .arr false 1 (dI 0) (ML dI (mkL mk_I 1 (k + r.Colours.length) r.Places.length)))])) := by
  refine pco_of_run [] (E := ⟨[c41], [], []⟩) (m := false) (base := 0) (Env.ok_cons c41_ok Env.ok_nil) G_ok mix 300 6 Try.func13 (by kernel_rfl) rfl (by kernel_rfl) (by kernel_rfl) rfl ?_
  simp [Try.f13]
  obtain ⟨h1, h2, h3, h4⟩ := hpre
  refine ⟨⟨by omega, by omega, by omega⟩, by omega, by omega, by omega⟩
theorem c13_ok : c13.ok Try.prog := mkCon_ok fun ⟨r, k⟩ hpre => c13_pc r k hpre
@[simp] theorem markR_fn {i kd lo hi fr un k : Int} {c p : List Int} : c13.fn [.agg [.lit (.int .i64 i), .lit (.int .i64 kd), .own (0, 0) 1 0 c.length, .lit (.int .i64 lo), .lit (.int .i64 hi), .own (1, 0) 1 0 p.length, .lit (.int .i64 fr), .lit (.int .i64 un)], .lit (.int .i64 k)] [((0, 0), .arr false 1 (.lit (.int .i64 0)) (ML dI c)), ((1, 0), .arr false 1 (.lit (.int .i64 0)) (ML dI p))] = some (c.length ≤ 1099511627776 ∧ p.length ≤ 1099511627776 ∧ 0 ≤ k ∧ k ≤ 1099511627776, dI (k + c.length + p.length), [((0, 0), .arr false 1 (dI 0) (ML dI (mkL mk_I 1 k c.length))), ((1, 0), .arr false 1 (dI 0) (ML dI (mkL mk_I 1 (k + c.length) p.length)))]) := c13_fn i kd c lo hi p fr un k
def hR (d : TReport) (k : Int) : Int := if d.Colours = mkL mk_I 1 k d.Colours.length then (if d.Places = mkL mk_I 1 (k + d.Colours.length) d.Places.length then k + d.Colours.length + d.Places.length else -1) else -1
/-- loop.example/g03007/laws.heldReport -/
noncomputable def c14 : Con := mkCon 14 false (α := TReport × Int) (fun x => (fun (d : TReport) (k : Int) => [encTReport d, dI k]) x.1 x.2) (fun _ => []) (fun x => (fun (d : TReport) (k : Int) => smR d ∧ 0 ≤ k ∧ k ≤ 1099511627776) x.1 x.2) (fun x => (fun (d : TReport) (k : Int) => (dI (hR d k) : D)) x.1 x.2) (fun x => (fun (d : TReport) (k : Int) => []) x.1 x.2)
@[simp] theorem c14_f : c14.f = 14 := rfl
@[simp] theorem c14_own : c14.own = false := rfl
theorem c14_inj : ∀ u_ v_ : TReport × Int, ((fun x => (fun (d : TReport) (k : Int) => [encTReport d, dI k]) x.1 x.2) u_).map nz = ((fun x => (fun (d : TReport) (k : Int) => [encTReport d, dI k]) x.1 x.2) v_).map nz → u_ = v_ := by
  intro u_ v_ h
  obtain ⟨⟨d_Id, d_Kind, d_Colours, d_SizeLow, d_SizeHigh, d_Places, ⟨d_Span_From, d_Span_Until⟩⟩, k⟩ := u_
  obtain ⟨⟨d_Id', d_Kind', d_Colours', d_SizeLow', d_SizeHigh', d_Places', ⟨d_Span_From', d_Span_Until'⟩⟩, k'⟩ := v_
  simp [nz_lit, nz1_lit, nz_agg, nz_sl, nz1_sl, encLI, encTReport, encTSpan] at h
  first | (simp [h]; done) | (obtain ⟨⟩ := h; simp_all; done) | simp_all
@[simp] theorem c14_fn (d_Id : Int) (d_Kind : Int) (d_Colours : List Int) (d_SizeLow : Int) (d_SizeHigh : Int) (d_Places : List Int) (d_Span_From : Int) (d_Span_Until : Int) (k : Int) : c14.fn [.agg [.lit (.int .i64 d_Id), .lit (.int .i64 d_Kind), .sl false 1 (.lit (.int .i64 0)) (ML dI d_Colours), .lit (.int .i64 d_SizeLow), .lit (.int .i64 d_SizeHigh), .sl false 1 (.lit (.int .i64 0)) (ML dI d_Places), .lit (.int .i64 d_Span_From), .lit (.int .i64 d_Span_Until)], .lit (.int .i64 k)] [] = some ((fun (d : TReport) (k : Int) => smR d ∧ 0 ≤ k ∧ k ≤ 1099511627776) ⟨d_Id, d_Kind, d_Colours, d_SizeLow, d_SizeHigh, d_Places, ⟨d_Span_From, d_Span_Until⟩⟩ k, (fun (d : TReport) (k : Int) => (dI (hR d k) : D)) ⟨d_Id, d_Kind, d_Colours, d_SizeLow, d_SizeHigh, d_Places, ⟨d_Span_From, d_Span_Until⟩⟩ k, (fun (d : TReport) (k : Int) => []) ⟨d_Id, d_Kind, d_Colours, d_SizeLow, d_SizeHigh, d_Places, ⟨d_Span_From, d_Span_Until⟩⟩ k) :=
  mkCon_fn (fun x y h _ => c14_inj x y h) ((⟨d_Id, d_Kind, d_Colours, d_SizeLow, d_SizeHigh, d_Places, ⟨d_Span_From, d_Span_Until⟩⟩, k) : TReport × Int) (by simp [nz, nz1, ML_nil, encLI, encTReport, encTSpan]) rfl
theorem c14_pc (d : TReport) (k : Int) (hpre : smR d ∧ 0 ≤ k ∧ k ≤ 1099511627776) : PCo Try.prog 14 [encTReport d, dI k] (Tab.of []) (dI (hR d k)) (Tab.of []) := by
  refine pco_of_run [] (E := ⟨[c42], [], []⟩) (m := false) (base := 0) (Env.ok_cons c42_ok Env.ok_nil) G_ok mix 300 6 Try.func14 (by kernel_rfl) rfl (by kernel_rfl) (by kernel_rfl) rfl ?_
  obtain ⟨⟨h1, h2⟩, h3, h4⟩ := hpre
  by_cases e1 : d.Colours = mkL mk_I 1 k d.Colours.length
  · by_cases e2 : d.Places = mkL mk_I 1 (k + d.Colours.length) d.Places.length
    · have e3 : hR d k = k + d.Colours.length + d.Places.length := by simp only [hR]; rw [if_pos e1, if_pos e2]
      rw [e3]
      simp [Try.f14, ← e1, ← e2]
      repeat' (first | omega | refine And.intro ?_ ?_ | intro _)
    · have e3 : hR d k = -1 := by simp only [hR]; rw [if_pos e1, if_neg e2]
      rw [e3]
      simp [Try.f14, ← e1, e2]
      repeat' (first | omega | refine And.intro ?_ ?_ | intro _)
  · have e3 : hR d k = -1 := by simp only [hR]; rw [if_neg e1]
    rw [e3]
    simp [Try.f14, e1]
    repeat' (first | omega | refine And.intro ?_ ?_ | intro _)
theorem c14_ok : c14.ok Try.prog := mkCon_ok fun ⟨d, k⟩ hpre => c14_pc d k hpre
@[simp] theorem hR_mark {n m : Nat} {i kd lo hi k : Int} {s : TSpan} : hR ⟨i, kd, mkL mk_I 1 k n, lo, hi, mkL mk_I 1 (k + n) m, s⟩ k = k + n + m := by
  simp [hR]

end Go.Proofs.Ytallgbanohpbbaa
