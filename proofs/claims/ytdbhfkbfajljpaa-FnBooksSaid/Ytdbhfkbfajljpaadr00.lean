/- Contracts of the functions that the laws run. -/
import Derived.Test.Ytdbhfkbfajljpaabits
import Derived.Test.Ytdbhfkbfajljpaach01
import Derived.Test.YtdbhfkbfajljpaaEngB
namespace Go.Proofs.Ytdbhfkbfajljpaa
open Go Go.Eng
set_option linter.unusedSimpArgs false
set_option linter.unusedVariables false
set_option maxRecDepth 10000
set_option maxHeartbeats 1000000
noncomputable def xorK (k : IntKind) (a b : Int) : Int := Classical.choose (⟨_, rfl⟩ : ∃ v : Int, v = k.wrap (BitVec.ofInt k.bits a ^^^ BitVec.ofInt k.bits b).toNat)
theorem xorK_eq (k : IntKind) (a b : Int) : xorK k a b = k.wrap (BitVec.ofInt k.bits a ^^^ BitVec.ofInt k.bits b).toNat := Classical.choose_spec (⟨_, rfl⟩ : ∃ v : Int, v = k.wrap (BitVec.ofInt k.bits a ^^^ BitVec.ofInt k.bits b).toNat)
theorem bXor (m : Bool) (k : IntKind) (a b : Int) : binI m .xor k a b = some ⟨True, .lit (.int k (xorK k a b)), .none⟩ := by rw [xorK_eq]; rfl
theorem and255 (a : Int) : 0 ≤ andK .i64 a 255 ∧ andK .i64 a 255 ≤ 255 := by
  rw [andK_eq]
  have h : (BitVec.ofInt (IntKind.bits .i64) a &&& BitVec.ofInt (IntKind.bits .i64) 255).toNat ≤ 255 := by
    rw [BitVec.toNat_and]
    exact Nat.and_le_right
  generalize (BitVec.ofInt (IntKind.bits .i64) a &&& BitVec.ofInt (IntKind.bits .i64) 255).toNat = n at h
  have e : IntKind.wrap .i64 (n : Int) = n := by simp [IntKind.wrap, IntKind.signed, IntKind.bits]; omega
  rw [e]; omega
noncomputable def wK (n : Int) : Int := Classical.choose (⟨_, rfl⟩ : ∃ v : Int, v = IntKind.wrap .i64 n)
theorem wK_eq (n : Int) : IntKind.wrap .i64 n = wK n := (Classical.choose_spec (⟨_, rfl⟩ : ∃ v : Int, v = IntKind.wrap .i64 n)).symm
noncomputable def cH (h : Int) : Int := wK (wK (h * 6364136223846793005) + 1442695040888963407)
noncomputable def cR (h : Int) : Int := andK .i64 (xorK .i64 (shrK .i64 (cH h) 33) (shrK .i64 (cH h) 47)) 255
noncomputable def cX (b : List Int) (i h : Int) : Int := if i < b.length then andK .i64 (wK (cR h + wK (b[i.toNat]?.getD 0))) 255 else cR h
noncomputable def cI (b : List Int) (i : Int) : Int := if i < b.length then wK (i + 1) else i
theorem cX_bd (b : List Int) (i h : Int) : 0 ≤ cX b i h ∧ cX b i h ≤ 255 := by
  simp only [cX]; split
  · exact and255 _
  · exact and255 _
theorem exXor : ∃ f : IntKind → Int → Int → Int, (∀ m k a b, binI m .xor k a b = some ⟨True, .lit (.int k (f k a b)), .none⟩) ∧ ∀ k a b, f k a b = xorK k a b := ⟨xorK, fun m k a b => bXor m k a b, fun _ _ _ => rfl⟩
theorem exW : ∃ f : Int → Int, (∀ n, IntKind.wrap .i64 n = f n) ∧ ∀ n, f n = wK n := ⟨wK, wK_eq, fun _ => rfl⟩
theorem exMul : ∃ A B : Int, A = 6364136223846793005 ∧ B = 1442695040888963407 := ⟨_, _, rfl, rfl⟩
theorem wK_id {n : Int} (h : -9223372036854775808 ≤ n ∧ n ≤ 9223372036854775807) : wK n = n := by
  rw [← wK_eq]
  simp [IntKind.wrap, IntKind.signed, IntKind.bits]; omega
/-- the cursor's next state, and the byte that it gives -/
noncomputable def stp (c : TL1Cur) : TL1Cur := ⟨c.b_, cI c.b_ c.i_, cH c.h_⟩
noncomputable def val (c : TL1Cur) : Int := cX c.b_ c.i_ c.h_
theorem val_bd (c : TL1Cur) : 0 ≤ val c ∧ val c ≤ 255 := cX_bd ..
def okCu (c : TL1Cur) : Prop := 0 ≤ c.i_ ∧ c.i_ ≤ c.b_.length ∧ c.b_.length ≤ 2097152
theorem okCu_stp {c : TL1Cur} (h : okCu c) : okCu (stp c) := by
  obtain ⟨h1, h2, h3⟩ := h
  simp only [okCu, stp, cI]
  split
  · rw [wK_id (by omega)]; omega
  · omega
/-- loop.example/g03007/spec.l1Byte -/
noncomputable def c52 : Con := mkCon 52 true (α := TL1Cur) (fun x => (fun (c : TL1Cur) => ([.ptr (0, 0) 0] : List D)) x) (fun x => (fun (c : TL1Cur) => ([((0, 0), .box (encTL1Cur c))] : List (Nm × OO))) x) (fun x => (fun (c : TL1Cur) => okCu c) x) (fun x => (fun (c : TL1Cur) => (dI (val c) : D)) x) (fun x => (fun (c : TL1Cur) => ([((0, 0), .box (encTL1Cur (stp c)))] : List (Nm × OO))) x)
@[simp] theorem c52_f : c52.f = 52 := rfl
@[simp] theorem c52_own : c52.own = true := rfl
theorem c52_inj : ∀ u_ v_ : TL1Cur, ((fun x => (fun (c : TL1Cur) => ([.ptr (0, 0) 0] : List D)) x) u_).map nz = ((fun x => (fun (c : TL1Cur) => ([.ptr (0, 0) 0] : List D)) x) v_).map nz → (fun x => (fun (c : TL1Cur) => ([((0, 0), .box (encTL1Cur c))] : List (Nm × OO))) x) u_ = (fun x => (fun (c : TL1Cur) => ([((0, 0), .box (encTL1Cur c))] : List (Nm × OO))) x) v_ → u_ = v_ := by
  intro u_ v_ h h2_
  obtain ⟨c_b_, c_i_, c_h_⟩ := u_
  obtain ⟨c_b_', c_i_', c_h_'⟩ := v_
  simp [nz_lit, nz1_lit, nz_agg, nz_sl, nz1_sl, nz_sx, nz_el, nz1_el, nz_own, nz1_own, nz_ptr, nz_fn, nz_iface] at h h2_
  first | (simp [h, h2_]; done) | (obtain ⟨h3_, h4_⟩ := List.append_inj h2_ h.1; simp_all; done) | simp_all | grind
@[simp] theorem c52_fn (c_b_ : List Int) (c_i_ : Int) (c_h_ : Int) : c52.fn ([.ptr (0, 0) 0]) ([((0, 0), .box (.agg [.sl false 1 (.lit (.int .u8 0)) (ML dU c_b_), .lit (.int .i64 c_i_), .lit (.int .i64 c_h_)]))]) = some (okCu (⟨c_b_, c_i_, c_h_⟩ : TL1Cur), dI (val (⟨c_b_, c_i_, c_h_⟩ : TL1Cur)), [((0, 0), .box (encTL1Cur (stp (⟨c_b_, c_i_, c_h_⟩ : TL1Cur))))]) :=
  mkCon_fn c52_inj (⟨c_b_, c_i_, c_h_⟩ : TL1Cur) rfl rfl
theorem c52_pc (c : TL1Cur) (hpre : okCu c) : PCo Try.prog 52 ([.ptr (0, 0) 0]) (Tab.of ([((0, 0), .box (encTL1Cur c))])) (dI (val c)) (Tab.of ([((0, 0), .box (encTL1Cur (stp c)))])) := by
  refine pco_of_run [] (E := ⟨[], [], []⟩) (m := true) (base := 0) Env.ok_nil G_ok mix 300 6 Try.func52 (by kernel_rfl) rfl (by kernel_rfl) (by kernel_rfl) rfl ?_
  obtain ⟨h1, h2, h3⟩ := hpre
  obtain ⟨b, i, h⟩ := c
  simp only at h1 h2 h3
  obtain ⟨fA, hA, hA2⟩ := exAnd
  obtain ⟨fX, hX, hX2⟩ := exXor
  obtain ⟨fS, hS, hS2⟩ := exShr
  obtain ⟨fW, hW, hW2⟩ := exW
  simp [Try.f52, -binI, hA, hX, hS, bAdd, bSub, bMul, bQuo, bRem, bEql, bNeq, bLss, bLeq, bGtr, bGeq, intRes, hW]
  simp only [hA2, hX2, hS2, hW2]
  simp only [stp, val]
  refine ⟨fun hlt => ⟨⟨h1, hlt⟩, ?_, trivial, ?_, rfl⟩, fun hge => ⟨?_, trivial, ?_, rfl⟩⟩
  · rw [cX, if_pos hlt]; rfl
  · rw [cI, if_pos hlt]
  · rw [cX, if_neg (by omega)]; rfl
  · rw [cI, if_neg (by omega)]
theorem c52_ok : c52.ok Try.prog := mkCon_ok fun c hpre => c52_pc c hpre
noncomputable def cuN (c : TL1Cur) (n : Int) : TL1Cur := if n ≤ 0 then c else if n ≤ 256 then stp c else stp (stp (stp c))
noncomputable def cuV (c : TL1Cur) (n : Int) : Int := if n ≤ 0 then 0 else if n ≤ 256 then (val c).tmod n else (val c * 65536 + val (stp c) * 256 + val (stp (stp c))).tmod n
theorem okCu_cuN {c : TL1Cur} (h : okCu c) (n : Int) : okCu (cuN c n) := by
  simp only [cuN]; (repeat' split)
  · exact h
  · exact okCu_stp h
  · exact okCu_stp (okCu_stp (okCu_stp h))
theorem cuV_bd (c : TL1Cur) (n : Int) (h : 0 < n) : 0 ≤ cuV c n ∧ cuV c n < n := by
  have h1 := val_bd c
  have h2 := val_bd (stp c)
  have h3 := val_bd (stp (stp c))
  simp only [cuV]; (repeat' split)
  · omega
  · exact ⟨Int.tmod_nonneg _ h1.1, Int.tmod_lt_of_pos _ h⟩
  · exact ⟨Int.tmod_nonneg _ (by omega), Int.tmod_lt_of_pos _ h⟩
theorem exCur : ∃ (fv : TL1Cur → Int) (fs : TL1Cur → TL1Cur), (∀ c : TL1Cur, c52.fn [.ptr (0, 0) 0] [((0, 0), .box (.agg [.sl false 1 (.lit (.int .u8 0)) (ML dU c.b_), .lit (.int .i64 c.i_), .lit (.int .i64 c.h_)]))] = some (okCu c, dI (fv c), [((0, 0), .box (encTL1Cur (fs c)))])) ∧ (∀ c, fv c = val c) ∧ ∀ c, fs c = stp c := ⟨val, stp, fun c => c52_fn c.b_ c.i_ c.h_, fun _ => rfl, fun _ => rfl⟩
/-- loop.example/g03007/spec.l1Below -/
noncomputable def c32_z : Con := mkCon 32 true (α := TL1Cur × Int) (fun x => (fun (c : TL1Cur) (n : Int) => ([.ptr (0, 0) 0, dI n] : List D)) x.1 x.2) (fun x => (fun (c : TL1Cur) (n : Int) => ([((0, 0), .box (encTL1Cur c))] : List (Nm × OO))) x.1 x.2) (fun x => (fun (c : TL1Cur) (n : Int) => okCu c) x.1 x.2) (fun x => (fun (c : TL1Cur) (n : Int) => (dI (cuV c n) : D)) x.1 x.2) (fun x => (fun (c : TL1Cur) (n : Int) => ([((0, 0), .box (encTL1Cur (cuN c n)))] : List (Nm × OO))) x.1 x.2)
@[simp] theorem c32_z_f : c32_z.f = 32 := rfl
@[simp] theorem c32_z_own : c32_z.own = true := rfl
theorem c32_z_inj : ∀ u_ v_ : TL1Cur × Int, ((fun x => (fun (c : TL1Cur) (n : Int) => ([.ptr (0, 0) 0, dI n] : List D)) x.1 x.2) u_).map nz = ((fun x => (fun (c : TL1Cur) (n : Int) => ([.ptr (0, 0) 0, dI n] : List D)) x.1 x.2) v_).map nz → (fun x => (fun (c : TL1Cur) (n : Int) => ([((0, 0), .box (encTL1Cur c))] : List (Nm × OO))) x.1 x.2) u_ = (fun x => (fun (c : TL1Cur) (n : Int) => ([((0, 0), .box (encTL1Cur c))] : List (Nm × OO))) x.1 x.2) v_ → u_ = v_ := by
  intro u_ v_ h h2_
  obtain ⟨⟨c_b_, c_i_, c_h_⟩, n⟩ := u_
  obtain ⟨⟨c_b_', c_i_', c_h_'⟩, n'⟩ := v_
  simp [nz_lit, nz1_lit, nz_agg, nz_sl, nz1_sl, nz_sx, nz_el, nz1_el, nz_own, nz1_own, nz_ptr, nz_fn, nz_iface] at h h2_
  first | (simp [h, h2_]; done) | (obtain ⟨h3_, h4_⟩ := List.append_inj h2_ h.1; simp_all; done) | simp_all | grind
@[simp] theorem c32_z_fn (c_b_ : List Int) (c_i_ : Int) (c_h_ : Int) (n : Int) : c32_z.fn ([.ptr (0, 0) 0, dI n]) ([((0, 0), .box (.agg [.sl false 1 (.lit (.int .u8 0)) (ML dU c_b_), .lit (.int .i64 c_i_), .lit (.int .i64 c_h_)]))]) = some (okCu (⟨c_b_, c_i_, c_h_⟩ : TL1Cur), dI (cuV (⟨c_b_, c_i_, c_h_⟩ : TL1Cur) n), [((0, 0), .box (encTL1Cur (cuN (⟨c_b_, c_i_, c_h_⟩ : TL1Cur) n)))]) :=
  mkCon_fn c32_z_inj ((⟨c_b_, c_i_, c_h_⟩, n) : TL1Cur × Int) rfl rfl
theorem c32_z_pc (c : TL1Cur) (n : Int) (hpre : okCu c) : PCo Try.prog 32 ([.ptr (0, 0) 0, dI n]) (Tab.of ([((0, 0), .box (encTL1Cur c))])) (dI (cuV c n)) (Tab.of ([((0, 0), .box (encTL1Cur (cuN c n)))])) := by
  refine pco_of_run [] (E := ⟨[c52], [], []⟩) (m := false) (base := 0) (Env.ok_cons c52_ok Env.ok_nil) G_ok mix 300 6 Try.func32 (by kernel_rfl) rfl (by kernel_rfl) (by kernel_rfl) rfl ?_
  have h1 := val_bd c
  have h2 := val_bd (stp c)
  have h3 := val_bd (stp (stp c))
  have k1 := okCu_stp hpre
  have k2 := okCu_stp k1
  have hN : cuN c n = if n ≤ 0 then c else if n ≤ 256 then stp c else stp (stp (stp c)) := rfl
  have hV : cuV c n = if n ≤ 0 then 0 else if n ≤ 256 then (val c).tmod n else (val c * 65536 + val (stp c) * 256 + val (stp (stp c))).tmod n := rfl
  generalize cuN c n = d at *
  generalize cuV c n = v at *
  obtain ⟨fv, fs, hf, hv, hs⟩ := exCur
  simp only [← hv, ← hs] at *
  simp [Try.f32, hf, -c52_fn]
  refine ⟨fun h0 => ?_, fun h0 => ⟨fun h256 => ?_, fun h256 => ?_⟩⟩
  · rw [if_pos h0] at hN hV
    subst hN; subst hV
    exact ⟨rfl, rfl, rfl, rfl⟩
  · rw [if_neg (by omega), if_pos h256] at hN hV
    subst hN; subst hV
    exact ⟨⟨hpre, by omega⟩, rfl, rfl, rfl, rfl⟩
  · rw [if_neg (by omega), if_neg (by omega)] at hN hV
    subst hN; subst hV
    exact ⟨hpre, k1, k2, ⟨by omega, by omega, by omega, by omega, by omega⟩, rfl, rfl, rfl, rfl⟩
theorem c32_z_ok : c32_z.ok Try.prog := mkCon_ok fun ⟨c, n⟩ hpre => c32_z_pc c n hpre
theorem exBel : ∃ (fv : TL1Cur → Int → Int) (fs : TL1Cur → Int → TL1Cur), (∀ (c : TL1Cur) (n : Int), c32_z.fn [.ptr (0, 0) 0, .lit (.int .i64 n)] [((0, 0), .box (.agg [.sl false 1 (.lit (.int .u8 0)) (ML dU c.b_), .lit (.int .i64 c.i_), .lit (.int .i64 c.h_)]))] = some (okCu c, dI (fv c n), [((0, 0), .box (encTL1Cur (fs c n)))])) ∧ (∀ c n, fv c n = cuV c n) ∧ ∀ c n, fs c n = cuN c n := ⟨cuV, cuN, fun c n => c32_z_fn c.b_ c.i_ c.h_ n, fun _ _ => rfl, fun _ _ => rfl⟩
noncomputable def nS (h x : Int) : Int := andK .i64 (wK (wK (wK (h * 137) + wK x) + 11)) 1073741823
noncomputable def nH (l : List Int) (p : Nat) : Int := (l.take p).foldl nS (wK (193017 + l.length))
theorem nH_at {l : List Int} {p : Nat} (h : p < l.length) : nH l (p + 1) = nS (nH l p) (l[p]?.getD 0) := by
  simp only [nH]; rw [foldl_at (d := 0) h]
noncomputable def newC (l : List Int) : TL1Cur := ⟨l, 0, nH l (min l.length 4000)⟩
theorem okCu_new {l : List Int} (h : l.length ≤ 2097152) : okCu (newC l) := by
  simp only [okCu, newC]; omega
/-- loop.example/g03007/spec.l1New -/
noncomputable def c30f : Con := mkCon 30 false (α := (List Int)) (fun x => (fun (l : List Int) => [encLU l]) x) (fun _ => []) (fun x => (fun (l : List Int) => l.length ≤ 2097152) x) (fun x => (fun (l : List Int) => (.ptr (0, 1) 0 : D)) x) (fun x => (fun (l : List Int) => [((0, 1), .box (encTL1Cur (newC l)))]) x)
@[simp] theorem c30f_f : c30f.f = 30 := rfl
@[simp] theorem c30f_own : c30f.own = false := rfl
theorem c30f_inj : ∀ u_ v_ : (List Int), ((fun x => (fun (l : List Int) => [encLU l]) x) u_).map nz = ((fun x => (fun (l : List Int) => [encLU l]) x) v_).map nz → u_ = v_ := by
  intro u_ v_ h
  obtain l := u_
  obtain l' := v_
  simp [nz_lit, nz1_lit, nz_agg, nz_sl, nz1_sl, encLU] at h
  first | (simp [h]; done) | (obtain ⟨⟩ := h; simp_all; done) | simp_all
@[simp] theorem c30f_fn (l : List Int) : c30f.fn [.sl false 1 (.lit (.int .u8 0)) (ML dU l)] [] = some ((fun (l : List Int) => l.length ≤ 2097152) l, (fun (l : List Int) => (.ptr (0, 1) 0 : D)) l, (fun (l : List Int) => [((0, 1), .box (encTL1Cur (newC l)))]) l) :=
  mkCon_fn (fun x y h _ => c30f_inj x y h) (l : (List Int)) (by simp [nz, nz1, ML_nil, encLU]) rfl
@[simp] theorem c30f_fn1 (s_l : Nat) (z_l : D) : c30f.fn [.sl false s_l z_l []] [] = some ((fun (l : List Int) => l.length ≤ 2097152) [], (fun (l : List Int) => (.ptr (0, 1) 0 : D)) [], (fun (l : List Int) => [((0, 1), .box (encTL1Cur (newC l)))]) []) :=
  mkCon_fn (fun x y h _ => c30f_inj x y h) ([] : (List Int)) (by simp [nz, nz1, ML_nil, encLU]) rfl
theorem c30f_pc (l : List Int) (hpre : l.length ≤ 2097152) : PCo Try.prog 30 [encLU l] (Tab.of []) (.ptr (0, 1) 0) (Tab.of [((0, 1), .box (encTL1Cur (newC l)))]) := by
  refine pco_of_run [] (E := ⟨[], [], []⟩) (m := true) (base := 0) Env.ok_nil G_ok mix 300 6 Try.func30 (by kernel_rfl) rfl (by kernel_rfl) (by kernel_rfl) rfl ?_
  obtain ⟨fA, hA, hA2⟩ := exAnd
  obtain ⟨fW, hW, hW2⟩ := exW
  have hnS : ∀ h x, nS h x = fA .i64 (fW (fW (fW (h * 137) + fW x) + 11)) 1073741823 := fun h x => by simp only [hA2, hW2]; rfl
  have hn0 : nH l 0 = fW (193017 + l.length) := by simp [nH, hW2]
  simp [Try.f30, -binI, hA, bAdd, bSub, bMul, bQuo, bRem, bEql, bNeq, bLss, bLeq, bGtr, bGeq, intRes, hW]
  refine loop_inv (fun p : Nat => p ≤ l.length ∧ p ≤ 4000) (fun p => [(0, encLU l), (3, dI (nH l p)), (4, dI p)]) (fun _ => []) 1 (fun p => l.length - p) 0 400 (by simp) (by simp) (by simp [hn0]) ?_
  intro p ⟨hp, hp4⟩
  have hWp : fW ((p : Int) + 1) = (p : Int) + 1 := by rw [hW2]; exact wK_id (by omega)
  simp [-binI, hA, bAdd, bSub, bMul, bQuo, bRem, bEql, bNeq, bLss, bLeq, bGtr, bGeq, intRes, hW]
  refine ⟨fun hlt h4 => ⟨hlt, ?_⟩, fun hge => ?_⟩
  · exact Again.mk (p + 1) ⟨by omega, by omega⟩ (by simp [nH_at hlt, hnS, hWp]) (by first | omega | (simp; omega))
  · have e : min l.length 4000 = p := by
      by_cases hlt : p < l.length
      · have := hge hlt; omega
      · omega
    refine ⟨rfl, rfl, ?_⟩
    simp only [newC, e]
theorem c30f_ok : c30f.ok Try.prog := mkCon_ok fun l hpre => c30f_pc l hpre

end Go.Proofs.Ytdbhfkbfajljpaa
