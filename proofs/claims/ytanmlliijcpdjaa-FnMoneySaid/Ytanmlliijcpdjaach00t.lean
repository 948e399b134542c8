/- Contracts of the functions that the laws run. -/
import Derived.Test.Ytanmlliijcpdjaach00
import Derived.Test.Ytanmlliijcpdjaach04
import Derived.Test.YtanmlliijcpdjaaEngB
namespace Go.Proofs.Ytanmlliijcpdjaa
open Go Go.Eng
set_option linter.unusedSimpArgs false
set_option linter.unusedVariables false
set_option maxRecDepth 10000
set_option maxHeartbeats 1000000
/-- a thing that is drawn, and the cursor behind it -/
noncomputable def dT (c : TL1Cur) (id : Int) : TThing := ⟨id, 1 + bV c 8, bV (bN c 8) 8, 1 + bV (bN (bN c 8) 8) 20, 10 * bV (bN (bN (bN c 8) 8) 20) 500⟩
noncomputable def dTN (c : TL1Cur) : TL1Cur := bN (bN (bN (bN c 8) 8) 20) 500
/-- loop.example/g03007/spec.l4Draw -/
noncomputable def c28 : Con := mkCon 28 true (α := TL1Cur × Int) (fun x => (fun (c : TL1Cur) (id : Int) => ([.ptr (0, 0) 0, dI id] : List D)) x.1 x.2) (fun x => (fun (c : TL1Cur) (id : Int) => ([((0, 0), .box (encTL1Cur c))] : List (Nm × OO))) x.1 x.2) (fun x => (fun (c : TL1Cur) (id : Int) => okCu c) x.1 x.2) (fun x => (fun (c : TL1Cur) (id : Int) => (encTThing (dT c id) : D)) x.1 x.2) (fun x => (fun (c : TL1Cur) (id : Int) => ([((0, 0), .box (encTL1Cur (dTN c)))] : List (Nm × OO))) x.1 x.2)
@[simp] theorem c28_f : c28.f = 28 := rfl
@[simp] theorem c28_own : c28.own = true := rfl
theorem c28_inj : ∀ u_ v_ : TL1Cur × Int, ((fun x => (fun (c : TL1Cur) (id : Int) => ([.ptr (0, 0) 0, dI id] : List D)) x.1 x.2) u_).map nz = ((fun x => (fun (c : TL1Cur) (id : Int) => ([.ptr (0, 0) 0, dI id] : List D)) x.1 x.2) v_).map nz → (fun x => (fun (c : TL1Cur) (id : Int) => ([((0, 0), .box (encTL1Cur c))] : List (Nm × OO))) x.1 x.2) u_ = (fun x => (fun (c : TL1Cur) (id : Int) => ([((0, 0), .box (encTL1Cur c))] : List (Nm × OO))) x.1 x.2) v_ → u_ = v_ := by
  intro u_ v_ h h2_
  obtain ⟨⟨c_b_, c_i_, c_h_⟩, id⟩ := u_
  obtain ⟨⟨c_b_', c_i_', c_h_'⟩, id'⟩ := v_
  simp [nz_lit, nz1_lit, nz_agg, nz_sl, nz1_sl, nz_sx, nz_el, nz1_el, nz_own, nz1_own, nz_ptr, nz_fn, nz_iface] at h h2_
  first | (simp [h, h2_]; done) | (obtain ⟨h3_, h4_⟩ := List.append_inj h2_ h.1; simp_all; done) | simp_all | grind
@[simp] theorem c28_fn (c_b_ : List Int) (c_i_ : Int) (c_h_ : Int) (id : Int) : c28.fn ([.ptr (0, 0) 0, dI id]) ([((0, 0), .box (.agg [.sl false 1 (.lit (.int .u8 0)) (ML dU c_b_), .lit (.int .i64 c_i_), .lit (.int .i64 c_h_)]))]) = some (okCu (⟨c_b_, c_i_, c_h_⟩ : TL1Cur), encTThing (dT (⟨c_b_, c_i_, c_h_⟩ : TL1Cur) id), [((0, 0), .box (encTL1Cur (dTN (⟨c_b_, c_i_, c_h_⟩ : TL1Cur))))]) :=
  mkCon_fn c28_inj ((⟨c_b_, c_i_, c_h_⟩, id) : TL1Cur × Int) rfl rfl
theorem c28_pc (c : TL1Cur) (id : Int) (hpre : okCu c) : PCo Try.prog 28 ([.ptr (0, 0) 0, dI id]) (Tab.of ([((0, 0), .box (encTL1Cur c))])) (encTThing (dT c id)) (Tab.of ([((0, 0), .box (encTL1Cur (dTN c)))])) := by
  refine pco_of_run [] (E := ⟨[c17], [], []⟩) (m := false) (base := 0) (Env.ok_cons c17_ok Env.ok_nil) G_ok mix 300 6 Try.func28 (by kernel_rfl) rfl (by kernel_rfl) (by kernel_rfl) rfl ?_
  have k1 := okCu_bN hpre 8
  have k2 := okCu_bN k1 8
  have k3 := okCu_bN k2 20
  have b1 := bV_bd c 8 (by omega)
  have b2 := bV_bd (bN (bN c 8) 8) 20 (by omega)
  have b3 := bV_bd (bN (bN (bN c 8) 8) 20) 500 (by omega)
  have hd : dT c id = ⟨id, 1 + bV c 8, bV (bN c 8) 8, 1 + bV (bN (bN c 8) 8) 20, 10 * bV (bN (bN (bN c 8) 8) 20) 500⟩ := rfl
  have hn : dTN c = bN (bN (bN (bN c 8) 8) 20) 500 := rfl
  rw [hd, hn]
  obtain ⟨fv, fs, hf, hv, hs⟩ := exBel
  simp only [← hv, ← hs] at k1 k2 k3 b1 b2 b3 ⊢
  simp [Try.f28, hf, -c17_fn, hpre, k1, k2, k3]
  omega
theorem c28_ok : c28.ok Try.prog := mkCon_ok fun ⟨c, id⟩ hpre => c28_pc c id hpre

end Go.Proofs.Ytanmlliijcpdjaa
