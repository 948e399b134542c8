/- The contracts of the functions of chapter 5 that these laws run, model and program. No condition. -/
import Derived.Test.YtighmkfhjjabiadRows
import Derived.Test.YtighmkfhjjabiadEng
import Derived.KernelRfl
namespace Go.Proofs.Ytighmkfhjjabiad
open Go Go.Eng
set_option linter.unusedSimpArgs false

attribute [local simp] run den loopP evOps evOp evCall aval gdD opd strip scond sconds binD binI isShift cmpI intRes valR okR pickD mkwhn nmOf S.put S.eff S.bump Tab.upd Tab.nil Ctx.get loadD subD storeD fieldAddrD constD constD1 okD oneD cellsD retP retD packD Op.operands Call.operands List.replicate newBox Value.oneCell' pureD puresD TK.isAgg unD buildD placesD fillD TK.isBool fieldD lpc

def tI : TI := ⟨1, 8, .int .i64 0, .int .i64⟩
def tB : TI := ⟨1, 1, .bool false, .bool⟩
def tSpan : TI := ⟨2, 16, .agg #[.int .i64 0, .int .i64 0], .st [(0, 3), (1, 3)]⟩
def G : Ctx := [(3, tI), (4, tB), (23, tSpan), (24, tSpan)]
theorem tI_ok : tI.ok Try.prog 3 := ⟨by kernel_rfl, by kernel_rfl, by kernel_rfl, Try.underlying3⟩
theorem tB_ok : tB.ok Try.prog 4 := ⟨by kernel_rfl, by kernel_rfl, by kernel_rfl, Try.underlying4⟩
theorem tSpan_ok23 : tSpan.ok Try.prog 23 := ⟨by kernel_rfl, by kernel_rfl, by kernel_rfl, ⟨_, Try.underlying23, rfl⟩⟩
theorem tSpan_ok24 : tSpan.ok Try.prog 24 := ⟨by kernel_rfl, by kernel_rfl, by kernel_rfl, ⟨_, Try.underlying24, rfl⟩⟩
theorem G_ok : G.ok Try.prog := by
  intro p hp
  simp only [G, List.mem_cons, List.not_mem_nil, or_false] at hp
  rcases hp with rfl | rfl | rfl | rfl
  · exact tI_ok
  · exact tB_ok
  · exact tSpan_ok23
  · exact tSpan_ok24
theorem mix : Try.prog.follows .mixedOrders = true := by kernel_rfl

abbrev dI (n : Int) : D := .lit (.int .i64 n)
abbrev dB (b : Bool) : D := .lit (.bool b)
abbrev dSpan (a b : Int) : D := .agg [dI a, dI b]



theorem ofB {a b : Bool} (h : a = true ↔ b = true) : LeD (dB a) (dB b) := LeD.of_eq (by rw [Bool.eq_iff_iff.2 h])
def Env.none : Env := fun _ _ => Option.none
theorem Env.none_ok : Env.ok Try.prog Env.none := fun f ds p r h => by simp [Env.none] at h
def Env.add (E : Env) (f : FuncId) (g : List D → Option (Prop × D)) : Env := fun f' ds => if f' = f then g ds else E f' ds
theorem Env.add_ok {E : Env} {f : FuncId} {g : List D → Option (Prop × D)} (hE : E.ok Try.prog) (h : ∀ ds p r, g ds = some (p, r) → p → PC Try.prog f ds r) : (Env.add E f g).ok Try.prog := by
  intro f' ds p r he hp
  unfold Env.add at he
  split at he
  · rename_i e; subst e; exact h ds p r he hp
  · exact hE f' ds p r he hp
attribute [local simp] Env.none Env.add

/-! ### the contracts -/
def mIn (x y z : Int) : Bool := decide (y ≤ x) && decide (x ≤ z)
def g3I (m : Int → Int → Int → Bool) : List D → Option (Prop × D)
  | [.lit (.int .i64 x), .lit (.int .i64 y), .lit (.int .i64 z)] => some (True, dB (m x y z))
  | _ => Option.none
theorem pc24 (x y z : Int) : PC Try.prog 24 [dI x, dI y, dI z] (dB (mIn x y z)) := by
  refine pc_of_run (m := false) (base := 0) Env.none_ok G_ok mix 100 0 Try.func24 (by kernel_rfl) rfl rfl rfl ?_
  simp [Try.f24]
  exact ofB (by simp [mIn])
theorem pc26 (x y z : Int) : PC Try.prog 26 [dI x, dI y, dI z] (dB (mIn x y z)) := by
  refine pc_of_run (m := false) (base := 0) Env.none_ok G_ok mix 100 0 Try.func26 (by kernel_rfl) rfl rfl rfl ?_
  simp [Try.f26]
  exact ofB (by simp [mIn])
theorem pc9 (a b : Int) : PC Try.prog 9 [dSpan a b] (dSpan a b) := by
  refine pc_of_run (m := false) (base := 0) Env.none_ok G_ok mix 100 0 Try.func9 (by kernel_rfl) rfl rfl rfl ?_
  simp [Try.f9, G, tSpan, tI]
  exact LeD.refl _
def gSp (r : Int → Int → D) : List D → Option (Prop × D)
  | [.agg [.lit (.int .i64 a), .lit (.int .i64 b)]] => some (True, r a b)
  | _ => Option.none
theorem g3I_ok {f m} (h : ∀ x y z, PC Try.prog f [dI x, dI y, dI z] (dB (m x y z))) : ∀ ds p r, g3I m ds = some (p, r) → p → PC Try.prog f ds r := by
  intro ds p r h1 h2
  unfold g3I at h1
  split at h1
  · cases h1; exact h _ _ _
  · cases h1
theorem gSp_ok {f m} (h : ∀ a b, PC Try.prog f [dSpan a b] (m a b)) : ∀ ds p r, gSp m ds = some (p, r) → p → PC Try.prog f ds r := by
  intro ds p r h1 h2
  unfold gSp at h1
  split at h1
  · cases h1; exact h _ _
  · cases h1
attribute [local simp] g3I gSp
def E1 : Env := Env.add (Env.add (Env.add Env.none 24 (g3I mIn)) 26 (g3I mIn)) 9 (gSp dSpan)
theorem E1_ok : E1.ok Try.prog := Env.add_ok (Env.add_ok (Env.add_ok Env.none_ok (g3I_ok pc24)) (g3I_ok pc26)) (gSp_ok pc9)
def mIsSpan (a b : Int) : Bool := decide (0 ≤ a) && decide (a ≤ b) && decide (b ≤ 100000)
theorem pc22 (a b : Int) : PC Try.prog 22 [dSpan a b] (dB (mIsSpan a b)) := by
  refine pc_of_run (m := false) (base := 0) E1_ok G_ok mix 100 0 Try.func22 (by kernel_rfl) rfl rfl rfl ?_
  simp [Try.f22, G, tSpan, tI, E1]
  exact ofB (by simp [mIsSpan, mIn]; omega)
theorem pc25 (a b : Int) : PC Try.prog 25 [dSpan a b] (dB (mIsSpan a b)) := by
  refine pc_of_run (m := false) (base := 0) E1_ok G_ok mix 100 0 Try.func25 (by kernel_rfl) rfl rfl rfl ?_
  simp [Try.f25, G, tSpan, tI, E1]
  exact ofB (by simp [mIsSpan, mIn]; try omega)

def E2 : Env := Env.add (Env.add E1 22 (gSp fun a b => dB (mIsSpan a b))) 25 (gSp fun a b => dB (mIsSpan a b))
theorem E2_ok : E2.ok Try.prog := Env.add_ok (Env.add_ok E1_ok (gSp_ok pc22)) (gSp_ok pc25)
def mHolds (a b h : Int) : Bool := mIsSpan a b && mIn h a b
theorem pc16 (a b h : Int) : PC Try.prog 16 [dSpan a b, dI h] (dB (mHolds a b h)) := by
  refine pc_of_run (m := false) (base := 0) E2_ok G_ok mix 100 0 Try.func16 (by kernel_rfl) rfl rfl rfl ?_
  simp [Try.f16, G, tSpan, tI, E2, E1]
  exact ofB (by simp [mHolds])
theorem pc17 (a b h : Int) : PC Try.prog 17 [dSpan a b, dI h] (dB (mHolds a b h)) := by
  refine pc_of_run (m := false) (base := 0) E2_ok G_ok mix 100 0 Try.func17 (by kernel_rfl) rfl rfl rfl ?_
  simp [Try.f17, G, tSpan, tI, E2, E1]
  exact ofB (by simp [mHolds])
def mHours (a b : Int) : Int := if mIsSpan a b then b - a + 1 else 0
theorem pc18 (a b : Int) : PC Try.prog 18 [dSpan a b] (dI (mHours a b)) := by
  refine pc_of_run (m := false) (base := 0) E2_ok G_ok mix 100 0 Try.func18 (by kernel_rfl) rfl rfl rfl ?_
  simp [Try.f18, G, tSpan, tI, E2, E1]
  constructor
  · intro h; refine LeD.of_eq ?_; simp [mHours, h]
  · intro h
    have h' := h
    simp [mIsSpan] at h'
    refine ⟨⟨?_, ?_⟩, LeD.of_eq ?_⟩
    · simp [inR]; omega
    · simp [inR]; omega
    · simp [mHours, h]
theorem pc19 (a b : Int) : PC Try.prog 19 [dSpan a b] (dI (mHours a b)) := by
  refine pc_of_run (m := false) (base := 0) E2_ok G_ok mix 100 0 Try.func19 (by kernel_rfl) rfl rfl rfl ?_
  simp [Try.f19, G, tSpan, tI, E2, E1]
  constructor
  · intro h; refine LeD.of_eq ?_; simp [mHours, h]
  · intro h
    have h' := h
    simp [mIsSpan] at h'
    refine ⟨⟨?_, ?_⟩, LeD.of_eq ?_⟩
    · simp [inR]; omega
    · simp [inR]; omega
    · simp [mHours, h]
def gSpI (m : Int → Int → Int → D) : List D → Option (Prop × D)
  | [.agg [.lit (.int .i64 a), .lit (.int .i64 b)], .lit (.int .i64 h)] => some (True, m a b h)
  | _ => Option.none
theorem gSpI_ok {f m} (h : ∀ a b h, PC Try.prog f [dSpan a b, dI h] (m a b h)) : ∀ ds p r, gSpI m ds = some (p, r) → p → PC Try.prog f ds r := by
  intro ds p r h1 h2
  unfold gSpI at h1
  split at h1
  · cases h1; exact h _ _ _
  · cases h1
attribute [local simp] gSpI
def E3 : Env := Env.add (Env.add E2 16 (gSpI fun a b h => dB (mHolds a b h))) 17 (gSpI fun a b h => dB (mHolds a b h))
theorem E3_ok : E3.ok Try.prog := Env.add_ok (Env.add_ok E2_ok (gSpI_ok pc16)) (gSpI_ok pc17)
def E4 : Env := Env.add (Env.add E3 18 (gSp fun a b => dI (mHours a b))) 19 (gSp fun a b => dI (mHours a b))
theorem E4_ok : E4.ok Try.prog := Env.add_ok (Env.add_ok E3_ok (gSp_ok pc18)) (gSp_ok pc19)
theorem sh_span {D : D} (h : Sh G 9 23 D) : ∃ a b, D = dSpan a b ∧ inR .i64 a ∧ inR .i64 b := by
  obtain ⟨cs, rfl, _, d0, r0, ⟨x0, rfl, w0⟩, _, rfl, _, d1, r1, ⟨x1, rfl, w1⟩, _, rfl, rfl⟩ := h
  exact ⟨x0, x1, rfl, w0, w1⟩
theorem sh_int {D : D} (h : Sh G 9 3 D) : ∃ a, D = dI a ∧ inR .i64 a := h
theorem pc6 (D0 D1 : D) (h0 : Sh G 9 23 D0) (h1 : Sh G 9 3 D1) : PC Try.prog 6 [D0, D1] (dB true) := by
  obtain ⟨a, b, rfl, wa, wb⟩ := sh_span h0
  obtain ⟨h, rfl, wh⟩ := sh_int h1
  refine pc_of_run (m := false) (base := 0) E4_ok G_ok mix 100 0 Try.func6 (by kernel_rfl) rfl rfl rfl ?_
  simp [Try.f6, G, tSpan, tI, tB, E4, E3, E2, E1]

  exact LeD.refl _
theorem pc7 (D0 : D) (h0 : Sh G 9 23 D0) : PC Try.prog 7 [D0] (dB true) := by
  obtain ⟨a, b, rfl, wa, wb⟩ := sh_span h0
  refine pc_of_run (m := false) (base := 0) E4_ok G_ok mix 100 0 Try.func7 (by kernel_rfl) rfl rfl rfl ?_
  simp [Try.f7, G, tSpan, tI, tB, E4, E3, E2, E1]

  exact LeD.refl _
end Go.Proofs.Ytighmkfhjjabiad
