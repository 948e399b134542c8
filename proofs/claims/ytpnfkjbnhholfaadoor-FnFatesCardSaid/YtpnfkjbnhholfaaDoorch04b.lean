/- Contracts of the functions that the laws run. -/
import Derived.Test.YtpnfkjbnhholfaaDoorhelpA
import Derived.Test.YtpnfkjbnhholfaaDoorEngB
namespace Go.Proofs.YtpnfkjbnhholfaaDoor
open Go Go.Eng
set_option linter.unusedSimpArgs false
set_option linter.unusedVariables false
set_option maxRecDepth 10000
set_option maxHeartbeats 1000000
def mEqB (a b : List Int) : Bool := a.map (fun n => UInt8.ofNat n.toNat) == b.map (fun n => UInt8.ofNat n.toNat)
def kindNames : List ByteArray := [⟨#[]⟩, ⟨#[98, 97, 103]⟩, ⟨#[99, 111, 97, 116]⟩, ⟨#[107, 101, 121, 115]⟩, ⟨#[109, 111, 110, 101, 121]⟩, ⟨#[112, 104, 111, 110, 101]⟩, ⟨#[117, 109, 98, 114, 101, 108, 108, 97]⟩, ⟨#[102, 111, 111, 100]⟩, ⟨#[111, 116, 104, 101, 114]⟩]
def mTextAt (i : Int) (l : List ByteArray) : ByteArray := if mIn i 0 (l.length - 1) then l[i.toNat]?.getD ⟨#[]⟩ else ⟨#[]⟩
/-- loop.example/g03007/impl.textAt -/
noncomputable def c40 : Con := mkCon 40 false (α := Int × (List ByteArray)) (fun x => (fun (i : Int) (l : List ByteArray) => [dI i, encLS l]) x.1 x.2) (fun _ => []) (fun x => (fun (i : Int) (l : List ByteArray) => l.length ≤ 1099511627776) x.1 x.2) (fun x => (fun (i : Int) (l : List ByteArray) => (dS (mTextAt i l) : D)) x.1 x.2) (fun x => (fun (i : Int) (l : List ByteArray) => []) x.1 x.2)
@[simp] theorem c40_f : c40.f = 40 := rfl
@[simp] theorem c40_own : c40.own = false := rfl
theorem c40_inj : ∀ u_ v_ : Int × (List ByteArray), ((fun x => (fun (i : Int) (l : List ByteArray) => [dI i, encLS l]) x.1 x.2) u_).map nz = ((fun x => (fun (i : Int) (l : List ByteArray) => [dI i, encLS l]) x.1 x.2) v_).map nz → u_ = v_ := by
  intro u_ v_ h
  obtain ⟨i, l⟩ := u_
  obtain ⟨i', l'⟩ := v_
  simp [nz_lit, nz1_lit, nz_agg, nz_sl, nz1_sl, encLS] at h
  first | (simp [h]; done) | (obtain ⟨⟩ := h; simp_all; done) | simp_all
@[simp] theorem c40_fn (i : Int) (l : List ByteArray) : c40.fn [.lit (.int .i64 i), .sl false 1 (.lit (.string ⟨#[]⟩)) (ML dS l)] [] = some ((fun (i : Int) (l : List ByteArray) => l.length ≤ 1099511627776) i l, (fun (i : Int) (l : List ByteArray) => (dS (mTextAt i l) : D)) i l, (fun (i : Int) (l : List ByteArray) => []) i l) :=
  mkCon_fn (fun x y h _ => c40_inj x y h) ((i, l) : Int × (List ByteArray)) (by simp [nz, nz1, ML_nil, encLS]) rfl
@[simp] theorem c40_fn1 (i : Int) (s_l : Nat) (z_l : D) : c40.fn [.lit (.int .i64 i), .sl false s_l z_l []] [] = some ((fun (i : Int) (l : List ByteArray) => l.length ≤ 1099511627776) i [], (fun (i : Int) (l : List ByteArray) => (dS (mTextAt i l) : D)) i [], (fun (i : Int) (l : List ByteArray) => []) i []) :=
  mkCon_fn (fun x y h _ => c40_inj x y h) ((i, []) : Int × (List ByteArray)) (by simp [nz, nz1, ML_nil, encLS]) rfl
theorem c40_pc (i : Int) (l : List ByteArray) (hpre : l.length ≤ 1099511627776) : PCo Tryd.prog 40 [dI i, encLS l] (Tab.of []) (dS (mTextAt i l)) (Tab.of []) := by
  refine pco_of_run [] (E := ⟨[c29], [], []⟩) (m := false) (base := 0) (Env.ok_cons c29_ok Env.ok_nil) G_ok mix 300 6 Tryd.func40 (by kernel_rfl) rfl (by kernel_rfl) (by kernel_rfl) rfl ?_
  simp [Tryd.f40]
  refine ⟨by omega, fun h => by simp [mTextAt, h], fun h => ?_⟩
  have h2 := mIn_iff.1 h
  exact ⟨by omega, by simp [mTextAt, h]⟩
theorem c40_ok : c40.ok Tryd.prog := mkCon_ok fun ⟨i, l⟩ hpre => c40_pc i l hpre
def mKind (i : Int) : ByteArray := mTextAt i kindNames
@[simp] theorem c40_kind (i : Int) : c40.fn [.lit (.int .i64 i), .sl false 1 (.lit (.string ⟨#[]⟩)) [.lit (.string ⟨#[]⟩), .lit (.string ⟨#[98, 97, 103]⟩), .lit (.string ⟨#[99, 111, 97, 116]⟩), .lit (.string ⟨#[107, 101, 121, 115]⟩), .lit (.string ⟨#[109, 111, 110, 101, 121]⟩), .lit (.string ⟨#[112, 104, 111, 110, 101]⟩), .lit (.string ⟨#[117, 109, 98, 114, 101, 108, 108, 97]⟩), .lit (.string ⟨#[102, 111, 111, 100]⟩), .lit (.string ⟨#[111, 116, 104, 101, 114]⟩)]] [] = some (True, dS (mKind i), []) :=
  (c40_fn i kindNames).trans (by simp [mKind, kindNames])
def colourNames : List ByteArray := [⟨#[98, 108, 97, 99, 107]⟩, ⟨#[119, 104, 105, 116, 101]⟩, ⟨#[114, 101, 100]⟩, ⟨#[103, 114, 101, 101, 110]⟩, ⟨#[98, 108, 117, 101]⟩, ⟨#[121, 101, 108, 108, 111, 119]⟩, ⟨#[98, 114, 111, 119, 110]⟩, ⟨#[103, 114, 101, 121]⟩]
def mColour (i : Int) : ByteArray := mTextAt i colourNames
@[simp] theorem c40_colour (i : Int) : c40.fn [.lit (.int .i64 i), .sl false 1 (.lit (.string ⟨#[]⟩)) [.lit (.string ⟨#[98, 108, 97, 99, 107]⟩), .lit (.string ⟨#[119, 104, 105, 116, 101]⟩), .lit (.string ⟨#[114, 101, 100]⟩), .lit (.string ⟨#[103, 114, 101, 101, 110]⟩), .lit (.string ⟨#[98, 108, 117, 101]⟩), .lit (.string ⟨#[121, 101, 108, 108, 111, 119]⟩), .lit (.string ⟨#[98, 114, 111, 119, 110]⟩), .lit (.string ⟨#[103, 114, 101, 121]⟩)]] [] = some (True, dS (mColour i), []) :=
  (c40_fn i colourNames).trans (by simp [mColour, colourNames])
end Go.Proofs.YtpnfkjbnhholfaaDoor
