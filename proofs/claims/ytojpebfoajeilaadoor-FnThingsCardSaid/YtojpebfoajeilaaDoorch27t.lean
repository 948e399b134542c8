/- Contracts of the functions that the laws run. -/
import Derived.Test.YtojpebfoajeilaaDoorch01f
import Derived.Test.YtojpebfoajeilaaDoorch04b
import Derived.Test.YtojpebfoajeilaaDoorEngB
namespace Go.Proofs.YtojpebfoajeilaaDoor
open Go Go.Eng
set_option linter.unusedSimpArgs false
set_option linter.unusedVariables false
set_option maxRecDepth 10000
set_option maxHeartbeats 1000000
def mJoin (l : List ByteArray) (sep : ByteArray) : ByteArray := ⟨(Go.Lib.join (l.map (·.data.toList)) sep.data.toList).toArray⟩
/-- strings.Join -/
noncomputable def c25 : Con := mkCon 25 false (α := (List ByteArray) × ByteArray) (fun x => (fun (l : List ByteArray) (sep : ByteArray) => [encLS l, dS sep]) x.1 x.2) (fun _ => []) (fun x => (fun (l : List ByteArray) (sep : ByteArray) => l.length ≤ 1099511627776 ∧ (mJoin l sep).size ≤ 140737488355328) x.1 x.2) (fun x => (fun (l : List ByteArray) (sep : ByteArray) => (dS (mJoin l sep) : D)) x.1 x.2) (fun x => (fun (l : List ByteArray) (sep : ByteArray) => []) x.1 x.2)
@[simp] theorem c25_f : c25.f = 25 := rfl
@[simp] theorem c25_own : c25.own = false := rfl
theorem c25_inj : ∀ u_ v_ : (List ByteArray) × ByteArray, ((fun x => (fun (l : List ByteArray) (sep : ByteArray) => [encLS l, dS sep]) x.1 x.2) u_).map nz = ((fun x => (fun (l : List ByteArray) (sep : ByteArray) => [encLS l, dS sep]) x.1 x.2) v_).map nz → u_ = v_ := by
  intro u_ v_ h
  obtain ⟨l, sep⟩ := u_
  obtain ⟨l', sep'⟩ := v_
  simp [nz_lit, nz1_lit, nz_agg, nz_sl, nz1_sl, encLS] at h
  first | (simp [h]; done) | (obtain ⟨⟩ := h; simp_all; done) | simp_all
@[simp] theorem c25_fn (l : List ByteArray) (sep : ByteArray) : c25.fn [.sl false 1 (.lit (.string ⟨#[]⟩)) (ML dS l), .lit (.string sep)] [] = some ((fun (l : List ByteArray) (sep : ByteArray) => l.length ≤ 1099511627776 ∧ (mJoin l sep).size ≤ 140737488355328) l sep, (fun (l : List ByteArray) (sep : ByteArray) => (dS (mJoin l sep) : D)) l sep, (fun (l : List ByteArray) (sep : ByteArray) => []) l sep) :=
  mkCon_fn (fun x y h _ => c25_inj x y h) ((l, sep) : (List ByteArray) × ByteArray) (by simp [nz, nz1, ML_nil, encLS]) rfl
@[simp] theorem c25_fn1 (s_l : Nat) (z_l : D) (sep : ByteArray) : c25.fn [.sl false s_l z_l [], .lit (.string sep)] [] = some ((fun (l : List ByteArray) (sep : ByteArray) => l.length ≤ 1099511627776 ∧ (mJoin l sep).size ≤ 140737488355328) [] sep, (fun (l : List ByteArray) (sep : ByteArray) => (dS (mJoin l sep) : D)) [] sep, (fun (l : List ByteArray) (sep : ByteArray) => []) [] sep) :=
  mkCon_fn (fun x y h _ => c25_inj x y h) (([], sep) : (List ByteArray) × ByteArray) (by simp [nz, nz1, ML_nil, encLS]) rfl
theorem c25_pc (l : List ByteArray) (sep : ByteArray) (hpre : l.length ≤ 1099511627776 ∧ (mJoin l sep).size ≤ 140737488355328) : PCo Tryd.prog 25 [encLS l, dS sep] (Tab.of []) (dS (mJoin l sep)) (Tab.of []) := by
  obtain ⟨pre1, pre2⟩ := hpre
  refine pco_lit (enters_of_func Tryd.func25 (by kernel_rfl) (by kernel_rfl)) rfl fun w F vs G hr => ?_
  simp only [Reps] at hr
  obtain ⟨v, vs', rfl, r1, v2, vs2, rfl, r2, rfl⟩ := hr
  simp only [Rep] at r2
  subst r2
  rcases rep_row (f := Value.string) (fun _ => rfl) r1 with ⟨rfl, a, cap, rfl⟩ | ⟨b, off, cap, rfl, hb, hc, hcell⟩
  · refine (Tryd.strings_Join_none a cap sep w).mono ?_
    rintro e w' ⟨rfl, rfl⟩
    exact ⟨rfl, grown_refl _⟩
  · refine (Tryd.strings_Join b off cap l sep w hcell hb (by omega) hc (by simpa [mJoin, ByteArray.size] using pre2)).mono ?_
    rintro e w' ⟨rfl, hB⟩
    exact ⟨rfl, grown_below hB⟩
theorem c25_ok : c25.ok Tryd.prog := mkCon_ok fun ⟨l, sep⟩ hpre => c25_pc l sep hpre
theorem mJoin4 (a b c d : ByteArray) (s : ByteArray) : mJoin [a, b, c, d] s = (((((a ++ s) ++ b) ++ s) ++ c) ++ s) ++ d := by
  apply ByteArray.ext
  apply Array.ext'
  simp [mJoin, Go.Lib.join, List.intercalate, ByteArray.data_append]
def sp1 : ByteArray := ⟨#[32]⟩
def mThingText (x : TThing) : ByteArray := if mIsThing x then (((((mInt x.Id ++ sp1) ++ mColour x.Colour) ++ sp1) ++ mKind x.Kind) ++ sp1) ++ mInt x.Size else ⟨#[]⟩
theorem things_in {x : TThing} (h : mIsThing x = true) : (1 ≤ x.Id ∧ x.Id ≤ 999) ∧ (1 ≤ x.Size ∧ x.Size ≤ 50) := by
  simp only [mIsThing, Bool.and_eq_true] at h
  exact ⟨mIn_iff.1 h.1.1.1.1, mIn_iff.1 h.1.2⟩
theorem textAt_size {i : Int} {l : List ByteArray} {n : Nat} (h : ∀ x ∈ l, x.size ≤ n) : (mTextAt i l).size ≤ n := by
  simp only [mTextAt]
  split
  · by_cases hi : i.toNat < l.length
    · rw [List.getElem?_eq_getElem hi]; exact h _ (List.getElem_mem _)
    · rw [List.getElem?_eq_none (by omega)]; simp [ByteArray.size]
  · simp [ByteArray.size]
theorem kind_size (i : Int) : (mKind i).size ≤ 8 := textAt_size fun x hx => of_decide_eq_true (List.all_eq_true.1 (show (kindNames.all fun x => decide (x.size ≤ 8)) = true from rfl) x hx)
theorem colour_size (i : Int) : (mColour i).size ≤ 6 := textAt_size fun x hx => of_decide_eq_true (List.all_eq_true.1 (show (colourNames.all fun x => decide (x.size ≤ 6)) = true from rfl) x hx)
theorem sp1_size : (⟨#[32]⟩ : ByteArray).size = 1 := rfl
theorem app_size (a b : ByteArray) : (a ++ b).size = a.size + b.size := ByteArray.size_append
@[simp] theorem c25_four (a b c d s : ByteArray) : c25.fn [.sl false 1 (.lit (.string ⟨#[]⟩)) [.lit (.string a), .lit (.string b), .lit (.string c), .lit (.string d)], .lit (.string s)] [] = some ([a, b, c, d].length ≤ 1099511627776 ∧ (mJoin [a, b, c, d] s).size ≤ 140737488355328, dS (mJoin [a, b, c, d] s), []) := c25_fn [a, b, c, d] s
@[simp] theorem c25_two (a b s : ByteArray) : c25.fn [.sl false 1 (.lit (.string ⟨#[]⟩)) [.lit (.string a), .lit (.string b)], .lit (.string s)] [] = some ([a, b].length ≤ 1099511627776 ∧ (mJoin [a, b] s).size ≤ 140737488355328, dS (mJoin [a, b] s), []) := c25_fn [a, b] s
@[simp] theorem c25_six (a b c d e f s : ByteArray) : c25.fn [.sl false 1 (.lit (.string ⟨#[]⟩)) [.lit (.string a), .lit (.string b), .lit (.string c), .lit (.string d), .lit (.string e), .lit (.string f)], .lit (.string s)] [] = some ([a, b, c, d, e, f].length ≤ 1099511627776 ∧ (mJoin [a, b, c, d, e, f] s).size ≤ 140737488355328, dS (mJoin [a, b, c, d, e, f] s), []) := c25_fn [a, b, c, d, e, f] s
/-- (loop.example/g03007/impl.Thing).text -/
noncomputable def c17 : Con := mkCon 17 false (α := TThing) (fun x => (fun (x : TThing) => [encTThing x]) x) (fun _ => []) (fun x => (fun (x : TThing) => mIsThing x = true) x) (fun x => (fun (x : TThing) => (dS (mThingText x) : D)) x) (fun x => (fun (x : TThing) => []) x)
@[simp] theorem c17_f : c17.f = 17 := rfl
@[simp] theorem c17_own : c17.own = false := rfl
theorem c17_inj : ∀ u_ v_ : TThing, ((fun x => (fun (x : TThing) => [encTThing x]) x) u_).map nz = ((fun x => (fun (x : TThing) => [encTThing x]) x) v_).map nz → u_ = v_ := by
  intro u_ v_ h
  obtain ⟨x_Id, x_Kind, x_Colour, x_Size, x_Worth⟩ := u_
  obtain ⟨x_Id', x_Kind', x_Colour', x_Size', x_Worth'⟩ := v_
  simp [nz_lit, nz1_lit, nz_agg, nz_sl, nz1_sl, encTThing] at h
  first | (simp [h]; done) | (obtain ⟨⟩ := h; simp_all; done) | simp_all
@[simp] theorem c17_fn (x_Id : Int) (x_Kind : Int) (x_Colour : Int) (x_Size : Int) (x_Worth : Int) : c17.fn [.agg [.lit (.int .i64 x_Id), .lit (.int .i64 x_Kind), .lit (.int .i64 x_Colour), .lit (.int .i64 x_Size), .lit (.int .i64 x_Worth)]] [] = some ((fun (x : TThing) => mIsThing x = true) ⟨x_Id, x_Kind, x_Colour, x_Size, x_Worth⟩, (fun (x : TThing) => (dS (mThingText x) : D)) ⟨x_Id, x_Kind, x_Colour, x_Size, x_Worth⟩, (fun (x : TThing) => []) ⟨x_Id, x_Kind, x_Colour, x_Size, x_Worth⟩) :=
  mkCon_fn (fun x y h _ => c17_inj x y h) (⟨x_Id, x_Kind, x_Colour, x_Size, x_Worth⟩ : TThing) (by simp [nz, nz1, ML_nil, encTThing]) rfl
theorem c17_pc (x : TThing) (hpre : mIsThing x = true) : PCo Tryd.prog 17 [encTThing x] (Tab.of []) (dS (mThingText x)) (Tab.of []) := by
  refine pco_of_run [1001, 2000025] (E := ⟨[c8, c9, c25, c26], [], []⟩) (m := false) (base := 0) (Env.ok_cons c8_ok (Env.ok_cons c9_ok (Env.ok_cons c25_ok (Env.ok_cons c26_ok Env.ok_nil)))) G_ok mix 300 6 Tryd.func17 (by kernel_rfl) rfl (by kernel_rfl) (by kernel_rfl) rfl ?_
  have hb := things_in hpre
  have e : mThingText x = mJoin [mInt x.Id, mColour x.Colour, mKind x.Kind, mInt x.Size] sp1 := by rw [mThingText, if_pos hpre, mJoin4]
  rw [e]
  have s1 := mInt_size (n := x.Id) (by omega)
  have s2 := mInt_size (n := x.Size) (by omega)
  have s3 := kind_size x.Kind
  have s4 := colour_size x.Colour
  have sz : (mJoin [mInt x.Id, mColour x.Colour, mKind x.Kind, mInt x.Size] sp1).size ≤ 100 := by
    rw [mJoin4]; simp only [app_size, sp1, sp1_size]; omega
  clear e hpre
  obtain ⟨x_Id, x_Kind, x_Colour, x_Size, x_Worth⟩ := x
  simp only [sp1] at *
  simp [Tryd.f17]
  repeat' (first | omega | refine And.intro ?_ ?_ | intro _)
theorem c17_ok : c17.ok Tryd.prog := mkCon_ok fun x hpre => c17_pc x hpre
/-- loop.example/g03007/impl.ThingText -/
noncomputable def c7 : Con := mkCon 7 false (α := TThing) (fun x => (fun (x : TThing) => [encTThing x]) x) (fun _ => []) (fun x => (fun (x : TThing) => True) x) (fun x => (fun (x : TThing) => (dS (mThingText x) : D)) x) (fun x => (fun (x : TThing) => []) x)
@[simp] theorem c7_f : c7.f = 7 := rfl
@[simp] theorem c7_own : c7.own = false := rfl
theorem c7_inj : ∀ u_ v_ : TThing, ((fun x => (fun (x : TThing) => [encTThing x]) x) u_).map nz = ((fun x => (fun (x : TThing) => [encTThing x]) x) v_).map nz → u_ = v_ := by
  intro u_ v_ h
  obtain ⟨x_Id, x_Kind, x_Colour, x_Size, x_Worth⟩ := u_
  obtain ⟨x_Id', x_Kind', x_Colour', x_Size', x_Worth'⟩ := v_
  simp [nz_lit, nz1_lit, nz_agg, nz_sl, nz1_sl, encTThing] at h
  first | (simp [h]; done) | (obtain ⟨⟩ := h; simp_all; done) | simp_all
@[simp] theorem c7_fn (x_Id : Int) (x_Kind : Int) (x_Colour : Int) (x_Size : Int) (x_Worth : Int) : c7.fn [.agg [.lit (.int .i64 x_Id), .lit (.int .i64 x_Kind), .lit (.int .i64 x_Colour), .lit (.int .i64 x_Size), .lit (.int .i64 x_Worth)]] [] = some ((fun (x : TThing) => True) ⟨x_Id, x_Kind, x_Colour, x_Size, x_Worth⟩, (fun (x : TThing) => (dS (mThingText x) : D)) ⟨x_Id, x_Kind, x_Colour, x_Size, x_Worth⟩, (fun (x : TThing) => []) ⟨x_Id, x_Kind, x_Colour, x_Size, x_Worth⟩) :=
  mkCon_fn (fun x y h _ => c7_inj x y h) (⟨x_Id, x_Kind, x_Colour, x_Size, x_Worth⟩ : TThing) (by simp [nz, nz1, ML_nil, encTThing]) rfl
theorem c7_pc (x : TThing) : PCo Tryd.prog 7 [encTThing x] (Tab.of []) (dS (mThingText x)) (Tab.of []) := by
  refine pco_of_run [] (E := ⟨[c6, c17], [], []⟩) (m := false) (base := 0) (Env.ok_cons c6_ok (Env.ok_cons c17_ok Env.ok_nil)) G_ok mix 300 6 Tryd.func7 (by kernel_rfl) rfl (by kernel_rfl) (by kernel_rfl) rfl ?_
  cases h : mIsThing x with
  | true =>
    obtain ⟨x_Id, x_Kind, x_Colour, x_Size, x_Worth⟩ := x
    simp [Tryd.f7, h]
  | false =>
    have e : mThingText x = ⟨#[]⟩ := by simp [mThingText, h]
    rw [e]
    obtain ⟨x_Id, x_Kind, x_Colour, x_Size, x_Worth⟩ := x
    simp [Tryd.f7, h]
theorem c7_ok : c7.ok Tryd.prog := mkCon_ok fun x hpre => c7_pc x
end Go.Proofs.YtojpebfoajeilaaDoor
