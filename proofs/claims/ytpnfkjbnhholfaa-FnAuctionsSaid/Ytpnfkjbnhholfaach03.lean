/- Contracts of the functions that the laws run. -/
import Derived.Test.YtpnfkjbnhholfaahelpA
import Derived.Test.YtpnfkjbnhholfaaEngB
namespace Go.Proofs.Ytpnfkjbnhholfaa
open Go Go.Eng
set_option linter.unusedSimpArgs false
set_option linter.unusedVariables false
set_option maxRecDepth 10000
set_option maxHeartbeats 1000000
def hStep (d r : Int) : Int := (d * 1000003 + r + 13) % 2147483647
def mHash (l : List Int) : Int := l.foldl (fun d v => hStep d (v % 2147483647)) 11
theorem hStep_bd (d r : Int) : 0 ≤ hStep d r ∧ hStep d r < 2147483647 := emod_bd _ (by omega)
theorem mMod_M (v : Int) : mMod v 2147483647 = v % 2147483647 := rfl
theorem fold_bd {f : Int → Int → Int} (hf : ∀ a b, 0 ≤ f a b ∧ f a b < 2147483647) : ∀ (l : List Int) (d : Int), 0 ≤ d ∧ d < 2147483647 → 0 ≤ l.foldl f d ∧ l.foldl f d < 2147483647
  | [], d, h => h
  | x :: l, d, _ => fold_bd hf l (f d x) (hf d x)
theorem mHash_bd (l : List Int) : 0 ≤ mHash l ∧ mHash l < 2147483647 := fold_bd (fun a b => hStep_bd a _) l 11 (by omega)
theorem mHash_at {l : List Int} {p : Nat} (h : p < l.length) : mHash (l.take (p + 1)) = hStep (mHash (l.take p)) ((l[p]?.getD 0) % 2147483647) := by
  rw [take_at (d := 0) h]; simp [mHash, List.foldl_append]
theorem tmod_M {a : Int} (h : 0 ≤ a) : a.tmod 2147483647 = a % 2147483647 := Int.tmod_eq_emod_of_nonneg h
/-- loop.example/g03007/impl.foldResidue -/
noncomputable def c178 : Con := mkCon 178 false (α := Int × Int) (fun x => (fun (a : Int) (b : Int) => [dI a, dI b]) x.1 x.2) (fun _ => []) (fun x => (fun (a : Int) (b : Int) => 0 ≤ a ∧ a ≤ 2147483647 ∧ 0 ≤ b ∧ b ≤ 2147483647) x.1 x.2) (fun x => (fun (a : Int) (b : Int) => (dI (hStep a b) : D)) x.1 x.2) (fun x => (fun (a : Int) (b : Int) => []) x.1 x.2)
@[simp] theorem c178_f : c178.f = 178 := rfl
@[simp] theorem c178_own : c178.own = false := rfl
theorem c178_inj : ∀ u_ v_ : Int × Int, ((fun x => (fun (a : Int) (b : Int) => [dI a, dI b]) x.1 x.2) u_).map nz = ((fun x => (fun (a : Int) (b : Int) => [dI a, dI b]) x.1 x.2) v_).map nz → u_ = v_ := by
  intro u_ v_ h
  obtain ⟨a, b⟩ := u_
  obtain ⟨a', b'⟩ := v_
  simp [nz_lit, nz1_lit, nz_agg, nz_sl, nz1_sl] at h
  first | (simp [h]; done) | (obtain ⟨⟩ := h; simp_all; done) | simp_all
@[simp] theorem c178_fn (a : Int) (b : Int) : c178.fn [.lit (.int .i64 a), .lit (.int .i64 b)] [] = some ((fun (a : Int) (b : Int) => 0 ≤ a ∧ a ≤ 2147483647 ∧ 0 ≤ b ∧ b ≤ 2147483647) a b, (fun (a : Int) (b : Int) => (dI (hStep a b) : D)) a b, (fun (a : Int) (b : Int) => []) a b) :=
  mkCon_fn (fun x y h _ => c178_inj x y h) ((a, b) : Int × Int) (by simp [nz, nz1, ML_nil]) rfl
theorem c178_pc (a : Int) (b : Int) (hpre : 0 ≤ a ∧ a ≤ 2147483647 ∧ 0 ≤ b ∧ b ≤ 2147483647) : PCo Try.prog 178 [dI a, dI b] (Tab.of []) (dI (hStep a b)) (Tab.of []) := by
  refine pco_of_run [] (E := ⟨[], [], []⟩) (m := false) (base := 0) Env.ok_nil G_ok mix 300 6 Try.func178 (by kernel_rfl) rfl (by kernel_rfl) (by kernel_rfl) rfl ?_
  simp [Try.f178]
  rw [tmod_M (by omega)]
  refine ⟨by omega, rfl⟩
theorem c178_ok : c178.ok Try.prog := mkCon_ok fun ⟨a, b⟩ hpre => c178_pc a b hpre
/-- loop.example/g03007/spec.Hash -/
noncomputable def c197 : Con := mkCon 197 false (α := (List Int)) (fun x => (fun (l : List Int) => [encLI l]) x) (fun _ => []) (fun x => (fun (l : List Int) => l.length ≤ 1099511627776) x) (fun x => (fun (l : List Int) => (dI (mHash l) : D)) x) (fun x => (fun (l : List Int) => []) x)
@[simp] theorem c197_f : c197.f = 197 := rfl
@[simp] theorem c197_own : c197.own = false := rfl
theorem c197_inj : ∀ u_ v_ : (List Int), ((fun x => (fun (l : List Int) => [encLI l]) x) u_).map nz = ((fun x => (fun (l : List Int) => [encLI l]) x) v_).map nz → u_ = v_ := by
  intro u_ v_ h
  obtain l := u_
  obtain l' := v_
  simp [nz_lit, nz1_lit, nz_agg, nz_sl, nz1_sl, encLI] at h
  first | (simp [h]; done) | (obtain ⟨⟩ := h; simp_all; done) | simp_all
@[simp] theorem c197_fn (l : List Int) : c197.fn [.sl false 1 (.lit (.int .i64 0)) (ML dI l)] [] = some ((fun (l : List Int) => l.length ≤ 1099511627776) l, (fun (l : List Int) => (dI (mHash l) : D)) l, (fun (l : List Int) => []) l) :=
  mkCon_fn (fun x y h _ => c197_inj x y h) (l : (List Int)) (by simp [nz, nz1, ML_nil, encLI]) rfl
@[simp] theorem c197_fn1 (s_l : Nat) (z_l : D) : c197.fn [.sl false s_l z_l []] [] = some ((fun (l : List Int) => l.length ≤ 1099511627776) [], (fun (l : List Int) => (dI (mHash l) : D)) [], (fun (l : List Int) => []) []) :=
  mkCon_fn (fun x y h _ => c197_inj x y h) ([] : (List Int)) (by simp [nz, nz1, ML_nil, encLI]) rfl
theorem c197_pc (l : List Int) (hpre : l.length ≤ 1099511627776) : PCo Try.prog 197 [encLI l] (Tab.of []) (dI (mHash l)) (Tab.of []) := by
  refine pco_of_run [] (E := ⟨[c196], [], []⟩) (m := false) (base := 0) (Env.ok_cons c196_ok Env.ok_nil) G_ok mix 300 6 Try.func197 (by kernel_rfl) rfl (by kernel_rfl) (by kernel_rfl) rfl ?_
  simp [Try.f197]
  refine loop_inv (fun p : Nat => p ≤ l.length) (fun p => [(0, encLI l), (3, dI (mHash (l.take p))), (4, dI p)]) (fun _ => []) 1 (fun p => l.length - p) 0 100 (by simp) (by simp) (by simp [mHash]) ?_
  intro p hp
  simp
  have hb := mHash_bd (l.take p)
  have hm := emod_bd (l[p]?.getD 0) (show (0 : Int) < 2147483647 by omega)
  simp only [mMod_M]
  refine ⟨fun hlt => ⟨by omega, by omega, Again.mk (p + 1) (by omega) ?_ (by first | omega | (simp; omega))⟩, fun hge => by rw [List.take_of_length_le hge]⟩
  simp [mHash_at hlt, mMod_M, hStep]
  rw [tmod_M (by omega)]
theorem c197_ok : c197.ok Try.prog := mkCon_ok fun l hpre => c197_pc l hpre
/-- loop.example/g03007/impl.newResidues -/
noncomputable def c177 : Con := mkCon 177 false (α := Unit) (fun _ => []) (fun _ => []) (fun _ => True) (fun _ => (.fn (.func 208) [] [.ptr (0, 1) 0] : D)) (fun _ => [((0, 1), .box (.mp (1, 1))), ((1, 1), .map 0 [] (dI 0) [])])
@[simp] theorem c177_f : c177.f = 177 := rfl
@[simp] theorem c177_own : c177.own = false := rfl
theorem c177_inj : ∀ x y : Unit, ((fun _ => []) x).map nz = ((fun _ => []) y).map nz → x = y := fun _ _ _ => rfl
@[simp] theorem c177_fn : c177.fn [] [] = some (True, (.fn (.func 208) [] [.ptr (0, 1) 0] : D), [((0, 1), .box (.mp (1, 1))), ((1, 1), .map 0 [] (dI 0) [])]) :=
  mkCon_fn (fun x y h _ => c177_inj x y h) (() : Unit) (by simp [nz, nz1, ML_nil]) rfl
theorem c177_pc  : PCo Try.prog 177 [] (Tab.of []) (.fn (.func 208) [] [.ptr (0, 1) 0]) (Tab.of [((0, 1), .box (.mp (1, 1))), ((1, 1), .map 0 [] (dI 0) [])]) := by
  refine pco_of_run [] (E := ⟨[], [], []⟩) (m := false) (base := 0) Env.ok_nil G_ok mix 300 6 Try.func177 (by kernel_rfl) rfl (by kernel_rfl) (by kernel_rfl) rfl ?_
  simp [Try.f177]
  all_goals first | omega | (rw [Bool.eq_iff_iff]; simp; omega) | grind
theorem c177_ok : c177.ok Try.prog := mkCon_ok fun _ hpre => c177_pc 
def insI (ks : List Int) (v : Int) : List Int := if v ∈ ks then ks else ks ++ [v]
def keysI (ks : List Int) : List (List Int) := ks.map fun k => [k]
theorem posK_keys {v : Int} : ∀ {ks : List Int}, (posK [v] (keysI ks)).isSome = decide (v ∈ ks)
  | [] => rfl
  | k :: ks => by
    have := posK_keys (v := v) (ks := ks)
    simp only [keysI, List.map_cons, posK] at this ⊢
    by_cases h : v = k
    · simp [h]
    · simp [h, this]
theorem lookK_keys {v : Int} {f : Int → Int} : ∀ {ks : List Int}, lookK (keysI ks) (ML dI (ks.map f)) [v] = if v ∈ ks then some (dI (f v)) else none
  | [] => rfl
  | k :: ks => by
    have := lookK_keys (v := v) (f := f) (ks := ks)
    simp only [lookK, keysI, ML, List.map_cons, posK] at this ⊢
    by_cases h : v = k
    · subst h; simp
    · simp only [List.cons.injEq, h, and_true, if_false, List.mem_cons, false_or]
      rw [← this]
      cases posK [v] (List.map (fun k => [k]) ks) <;> simp
@[simp] theorem insK_keys {ks : List Int} {v : Int} : insK (keysI ks) [v] = keysI (insI ks v) := by
  have := posK_keys (v := v) (ks := ks)
  by_cases h : v ∈ ks
  · simp [insK, insI, this, h]
  · simp only [insK, insI, this, h, decide_false, Bool.false_eq_true, if_false]; simp [keysI]
@[simp] theorem keysI_inj {a b : List Int} : keysI a = keysI b ↔ a = b := by
  refine ⟨fun h => ?_, fun h => by rw [h]⟩
  exact (List.map_inj_right (fun {x y} h => by simpa using h)).1 h
theorem updK_keys {ks : List Int} {v : Int} {f : Int → Int} (h : v ∉ ks) : updK (keysI ks) (ML dI (ks.map f)) [v] (dI (f v)) = ML dI ((insI ks v).map f) := by
  have hp := posK_keys (v := v) (ks := ks)
  simp only [h, decide_false] at hp
  have hn : posK [v] (keysI ks) = none := by cases hq : posK [v] (keysI ks) <;> simp [hq] at hp ⊢
  simp [updK, hn, insI, h, ML]
theorem insI_mem {ks : List Int} {v : Int} (h : v ∈ ks) : insI ks v = ks := by simp [insI, h]
/-- loop.example/g03007/impl.newResidues$1 -/
noncomputable def c208 : Con := mkCon 208 true (α := Int × (List Int)) (fun x => (fun (v : Int) (ks : List Int) => ([dI v, .ptr (0, 0) 0] : List D)) x.1 x.2) (fun x => (fun (v : Int) (ks : List Int) => ([((0, 0), .box (.mp (1, 0))), ((1, 0), .map 0 (keysI ks) (dI 0) (ML dI (ks.map fun k => k % 2147483647)))] : List (Nm × OO))) x.1 x.2) (fun x => (fun (v : Int) (ks : List Int) => True) x.1 x.2) (fun x => (fun (v : Int) (ks : List Int) => (dI (v % 2147483647) : D)) x.1 x.2) (fun x => (fun (v : Int) (ks : List Int) => ([((0, 0), .box (.mp (1, 0))), ((1, 0), .map 0 (keysI (insI ks v)) (dI 0) (ML dI ((insI ks v).map fun k => k % 2147483647)))] : List (Nm × OO))) x.1 x.2)
@[simp] theorem c208_f : c208.f = 208 := rfl
@[simp] theorem c208_own : c208.own = true := rfl
theorem c208_inj : ∀ u_ v_ : Int × (List Int), ((fun x => (fun (v : Int) (ks : List Int) => ([dI v, .ptr (0, 0) 0] : List D)) x.1 x.2) u_).map nz = ((fun x => (fun (v : Int) (ks : List Int) => ([dI v, .ptr (0, 0) 0] : List D)) x.1 x.2) v_).map nz → (fun x => (fun (v : Int) (ks : List Int) => ([((0, 0), .box (.mp (1, 0))), ((1, 0), .map 0 (keysI ks) (dI 0) (ML dI (ks.map fun k => k % 2147483647)))] : List (Nm × OO))) x.1 x.2) u_ = (fun x => (fun (v : Int) (ks : List Int) => ([((0, 0), .box (.mp (1, 0))), ((1, 0), .map 0 (keysI ks) (dI 0) (ML dI (ks.map fun k => k % 2147483647)))] : List (Nm × OO))) x.1 x.2) v_ → u_ = v_ := by
  intro u_ v_ h h2_
  obtain ⟨v, ks⟩ := u_
  obtain ⟨v', ks'⟩ := v_
  simp [nz_lit, nz1_lit, nz_agg, nz_sl, nz1_sl, nz_sx, nz_el, nz1_el, nz_own, nz1_own, nz_ptr, nz_fn, nz_iface] at h h2_
  first | (simp [h, h2_]; done) | (obtain ⟨h3_, h4_⟩ := List.append_inj h2_ h.1; simp_all; done) | simp_all | grind
@[simp] theorem c208_fn (v : Int) (ks : List Int) : c208.fn ([dI v, .ptr (0, 0) 0]) ([((0, 0), .box (.mp (1, 0))), ((1, 0), .map 0 (keysI ks) (dI 0) (ML dI (ks.map fun k => k % 2147483647)))]) = some (True, dI (v % 2147483647), [((0, 0), .box (.mp (1, 0))), ((1, 0), .map 0 (keysI (insI ks v)) (dI 0) (ML dI ((insI ks v).map fun k => k % 2147483647)))]) :=
  mkCon_fn c208_inj ((v, ks) : Int × (List Int)) rfl rfl
theorem c208_pc (v : Int) (ks : List Int) : PCo Try.prog 208 ([dI v, .ptr (0, 0) 0]) (Tab.of ([((0, 0), .box (.mp (1, 0))), ((1, 0), .map 0 (keysI ks) (dI 0) (ML dI (ks.map fun k => k % 2147483647)))])) (dI (v % 2147483647)) (Tab.of ([((0, 0), .box (.mp (1, 0))), ((1, 0), .map 0 (keysI (insI ks v)) (dI 0) (ML dI ((insI ks v).map fun k => k % 2147483647)))])) := by
  refine pco_of_run [] (E := ⟨[c153], [], []⟩) (m := false) (base := 0) (Env.ok_cons c153_ok Env.ok_nil) G_ok mix 300 6 Try.func208 (by kernel_rfl) rfl (by kernel_rfl) (by kernel_rfl) rfl ?_
  by_cases h : v ∈ ks
  · simp [Try.f208, lookK_keys, h, insI_mem]
  · simp [Try.f208, lookK_keys, h, mMod_M]
    exact updK_keys (f := fun k => k % 2147483647) h
theorem c208_ok : c208.ok Try.prog := mkCon_ok fun ⟨v, ks⟩ hpre => c208_pc v ks
/-- loop.example/g03007/impl.Hash -/
noncomputable def c130 : Con := mkCon 130 false (α := (List Int)) (fun x => (fun (l : List Int) => [encLI l]) x) (fun _ => []) (fun x => (fun (l : List Int) => l.length ≤ 1099511627776) x) (fun x => (fun (l : List Int) => (dI (mHash l) : D)) x) (fun x => (fun (l : List Int) => []) x)
@[simp] theorem c130_f : c130.f = 130 := rfl
@[simp] theorem c130_own : c130.own = false := rfl
theorem c130_inj : ∀ u_ v_ : (List Int), ((fun x => (fun (l : List Int) => [encLI l]) x) u_).map nz = ((fun x => (fun (l : List Int) => [encLI l]) x) v_).map nz → u_ = v_ := by
  intro u_ v_ h
  obtain l := u_
  obtain l' := v_
  simp [nz_lit, nz1_lit, nz_agg, nz_sl, nz1_sl, encLI] at h
  first | (simp [h]; done) | (obtain ⟨⟩ := h; simp_all; done) | simp_all
@[simp] theorem c130_fn (l : List Int) : c130.fn [.sl false 1 (.lit (.int .i64 0)) (ML dI l)] [] = some ((fun (l : List Int) => l.length ≤ 1099511627776) l, (fun (l : List Int) => (dI (mHash l) : D)) l, (fun (l : List Int) => []) l) :=
  mkCon_fn (fun x y h _ => c130_inj x y h) (l : (List Int)) (by simp [nz, nz1, ML_nil, encLI]) rfl
@[simp] theorem c130_fn1 (s_l : Nat) (z_l : D) : c130.fn [.sl false s_l z_l []] [] = some ((fun (l : List Int) => l.length ≤ 1099511627776) [], (fun (l : List Int) => (dI (mHash l) : D)) [], (fun (l : List Int) => []) []) :=
  mkCon_fn (fun x y h _ => c130_inj x y h) ([] : (List Int)) (by simp [nz, nz1, ML_nil, encLI]) rfl
theorem c130_pc (l : List Int) (hpre : l.length ≤ 1099511627776) : PCo Try.prog 130 [encLI l] (Tab.of []) (dI (mHash l)) (Tab.of []) := by
  refine pco_of_run [] (E := ⟨[c177, c178, c208], [], []⟩) (m := false) (base := 0) (Env.ok_cons c177_ok (Env.ok_cons c178_ok (Env.ok_cons c208_ok Env.ok_nil))) G_ok mix 300 6 Try.func130 (by kernel_rfl) rfl (by kernel_rfl) (by kernel_rfl) rfl ?_
  simp [Try.f130]
  refine loop_inv (fun p : Nat × List Int => p.1 ≤ l.length) (fun p => [(3, .fn (.func 208) [] [.ptr (0, 1) 0]), (4, dI (mHash (l.take p.1))), (8, encLI l), (9, dI l.length), (10, dI p.1)]) (fun p => [((0, 1), .box (.mp (1, 1))), ((1, 1), .map 0 (keysI p.2) (dI 0) (ML dI (p.2.map fun k => k % 2147483647)))]) 2 (fun p => l.length - p.1) (0, []) 100 (by simp) (by simp) (by simp [mHash, keysI]) ?_
  intro ⟨p, ks⟩ hp
  simp
  have hb := mHash_bd (l.take p)
  have hm := emod_bd (l[p]?.getD 0) (show (0 : Int) < 2147483647 by omega)
  simp at hp
  refine ⟨fun hlt => ⟨hlt, by omega, by omega, Again.mk (p + 1, insI ks (l[p]?.getD 0)) (by simp; omega) (by simp [mHash_at hlt]) (by first | omega | (simp; omega))⟩, fun hge => by rw [List.take_of_length_le hge]⟩
theorem c130_ok : c130.ok Try.prog := mkCon_ok fun l hpre => c130_pc l hpre
end Go.Proofs.Ytpnfkjbnhholfaa
