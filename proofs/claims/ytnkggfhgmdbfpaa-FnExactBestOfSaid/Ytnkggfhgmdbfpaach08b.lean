/- Contracts of the functions that the laws run. -/
import Derived.Test.Ytnkggfhgmdbfpaach08
import Derived.Test.Ytnkggfhgmdbfpaach37o
import Derived.Test.Ytnkggfhgmdbfpaasortk
import Derived.Test.YtnkggfhgmdbfpaaEngB
namespace Go.Proofs.Ytnkggfhgmdbfpaa
open Go Go.Eng
set_option linter.unusedSimpArgs false
set_option linter.unusedVariables false
set_option maxRecDepth 10000
set_option maxHeartbeats 1000000
def scLt (r : TReport) (x y : TFind) : Bool := decide (mScore r y < mScore r x)
abbrev sortF (r : TReport) (l : List TFind) (p : Nat) : List TFind := sortK (scLt r) default l p
theorem cmp_neg (a b : Int) : ((if a < b then (-1 : Int) else if b < a then 1 else 0) < 0) = (a < b) := by
  rw [eq_iff_iff]; split
  · rename_i h; simp [h]
  · rename_i h; split <;> simp <;> omega
/-- loop.example/g03007/impl.ranked$1 -/
noncomputable def c195 : Con := mkCon 195 false (α := TFind × TFind × TReport) (fun x => (fun (a : TFind) (b : TFind) (r : TReport) => ([encTFind a, encTFind b, .el (encTReport r)] : List D)) x.1 x.2.1 x.2.2) (fun x => (fun (a : TFind) (b : TFind) (r : TReport) => ([] : List (Nm × OO))) x.1 x.2.1 x.2.2) (fun x => (fun (a : TFind) (b : TFind) (r : TReport) => smR r) x.1 x.2.1 x.2.2) (fun x => (fun (a : TFind) (b : TFind) (r : TReport) => (dI (if mScore r b < mScore r a then -1 else if mScore r a < mScore r b then 1 else 0) : D)) x.1 x.2.1 x.2.2) (fun x => (fun (a : TFind) (b : TFind) (r : TReport) => ([] : List (Nm × OO))) x.1 x.2.1 x.2.2)
@[simp] theorem c195_f : c195.f = 195 := rfl
@[simp] theorem c195_own : c195.own = false := rfl
theorem c195_inj : ∀ u_ v_ : TFind × TFind × TReport, ((fun x => (fun (a : TFind) (b : TFind) (r : TReport) => ([encTFind a, encTFind b, .el (encTReport r)] : List D)) x.1 x.2.1 x.2.2) u_).map nz = ((fun x => (fun (a : TFind) (b : TFind) (r : TReport) => ([encTFind a, encTFind b, .el (encTReport r)] : List D)) x.1 x.2.1 x.2.2) v_).map nz → (fun x => (fun (a : TFind) (b : TFind) (r : TReport) => ([] : List (Nm × OO))) x.1 x.2.1 x.2.2) u_ = (fun x => (fun (a : TFind) (b : TFind) (r : TReport) => ([] : List (Nm × OO))) x.1 x.2.1 x.2.2) v_ → u_ = v_ := by
  intro u_ v_ h h2_
  obtain ⟨⟨⟨a_Thing_Id, a_Thing_Kind, a_Thing_Colour, a_Thing_Size, a_Thing_Worth⟩, a_Place, a_At, a_Finder⟩, ⟨⟨b_Thing_Id, b_Thing_Kind, b_Thing_Colour, b_Thing_Size, b_Thing_Worth⟩, b_Place, b_At, b_Finder⟩, ⟨r_Id, r_Kind, r_Colours, r_SizeLow, r_SizeHigh, r_Places, ⟨r_Span_From, r_Span_Until⟩⟩⟩ := u_
  obtain ⟨⟨⟨a_Thing_Id', a_Thing_Kind', a_Thing_Colour', a_Thing_Size', a_Thing_Worth'⟩, a_Place', a_At', a_Finder'⟩, ⟨⟨b_Thing_Id', b_Thing_Kind', b_Thing_Colour', b_Thing_Size', b_Thing_Worth'⟩, b_Place', b_At', b_Finder'⟩, ⟨r_Id', r_Kind', r_Colours', r_SizeLow', r_SizeHigh', r_Places', ⟨r_Span_From', r_Span_Until'⟩⟩⟩ := v_
  simp [nz_lit, nz1_lit, nz_agg, nz_sl, nz1_sl, nz_sx, nz_el, nz1_el, nz_own, nz1_own, nz_ptr, nz_fn, nz_iface] at h h2_
  first | (simp [h, h2_]; done) | (obtain ⟨h3_, h4_⟩ := List.append_inj h2_ h.1; simp_all; done) | simp_all | grind
@[simp] theorem c195_fn (a_Thing_Id : Int) (a_Thing_Kind : Int) (a_Thing_Colour : Int) (a_Thing_Size : Int) (a_Thing_Worth : Int) (a_Place : Int) (a_At : Int) (a_Finder : Int) (b_Thing_Id : Int) (b_Thing_Kind : Int) (b_Thing_Colour : Int) (b_Thing_Size : Int) (b_Thing_Worth : Int) (b_Place : Int) (b_At : Int) (b_Finder : Int) (r_Id : Int) (r_Kind : Int) (r_Colours : List Int) (r_SizeLow : Int) (r_SizeHigh : Int) (r_Places : List Int) (r_Span_From : Int) (r_Span_Until : Int) : c195.fn ([.agg [.lit (.int .i64 a_Thing_Id), .lit (.int .i64 a_Thing_Kind), .lit (.int .i64 a_Thing_Colour), .lit (.int .i64 a_Thing_Size), .lit (.int .i64 a_Thing_Worth), .lit (.int .i64 a_Place), .lit (.int .i64 a_At), .lit (.int .i64 a_Finder)], .agg [.lit (.int .i64 b_Thing_Id), .lit (.int .i64 b_Thing_Kind), .lit (.int .i64 b_Thing_Colour), .lit (.int .i64 b_Thing_Size), .lit (.int .i64 b_Thing_Worth), .lit (.int .i64 b_Place), .lit (.int .i64 b_At), .lit (.int .i64 b_Finder)], .el (.agg [.lit (.int .i64 r_Id), .lit (.int .i64 r_Kind), .sl false 1 (.lit (.int .i64 0)) (ML dI r_Colours), .lit (.int .i64 r_SizeLow), .lit (.int .i64 r_SizeHigh), .sl false 1 (.lit (.int .i64 0)) (ML dI r_Places), .lit (.int .i64 r_Span_From), .lit (.int .i64 r_Span_Until)])]) ([]) = some (smR (⟨r_Id, r_Kind, r_Colours, r_SizeLow, r_SizeHigh, r_Places, ⟨r_Span_From, r_Span_Until⟩⟩ : TReport), dI (if mScore (⟨r_Id, r_Kind, r_Colours, r_SizeLow, r_SizeHigh, r_Places, ⟨r_Span_From, r_Span_Until⟩⟩ : TReport) (⟨⟨b_Thing_Id, b_Thing_Kind, b_Thing_Colour, b_Thing_Size, b_Thing_Worth⟩, b_Place, b_At, b_Finder⟩ : TFind) < mScore (⟨r_Id, r_Kind, r_Colours, r_SizeLow, r_SizeHigh, r_Places, ⟨r_Span_From, r_Span_Until⟩⟩ : TReport) (⟨⟨a_Thing_Id, a_Thing_Kind, a_Thing_Colour, a_Thing_Size, a_Thing_Worth⟩, a_Place, a_At, a_Finder⟩ : TFind) then -1 else if mScore (⟨r_Id, r_Kind, r_Colours, r_SizeLow, r_SizeHigh, r_Places, ⟨r_Span_From, r_Span_Until⟩⟩ : TReport) (⟨⟨a_Thing_Id, a_Thing_Kind, a_Thing_Colour, a_Thing_Size, a_Thing_Worth⟩, a_Place, a_At, a_Finder⟩ : TFind) < mScore (⟨r_Id, r_Kind, r_Colours, r_SizeLow, r_SizeHigh, r_Places, ⟨r_Span_From, r_Span_Until⟩⟩ : TReport) (⟨⟨b_Thing_Id, b_Thing_Kind, b_Thing_Colour, b_Thing_Size, b_Thing_Worth⟩, b_Place, b_At, b_Finder⟩ : TFind) then 1 else 0), []) :=
  mkCon_fn c195_inj ((⟨⟨a_Thing_Id, a_Thing_Kind, a_Thing_Colour, a_Thing_Size, a_Thing_Worth⟩, a_Place, a_At, a_Finder⟩, ⟨⟨b_Thing_Id, b_Thing_Kind, b_Thing_Colour, b_Thing_Size, b_Thing_Worth⟩, b_Place, b_At, b_Finder⟩, ⟨r_Id, r_Kind, r_Colours, r_SizeLow, r_SizeHigh, r_Places, ⟨r_Span_From, r_Span_Until⟩⟩) : TFind × TFind × TReport) rfl rfl
theorem c195_pc (a : TFind) (b : TFind) (r : TReport) (hpre : smR r) : PCo Try.prog 195 ([encTFind a, encTFind b, .el (encTReport r)]) (Tab.of ([])) (dI (if mScore r b < mScore r a then -1 else if mScore r a < mScore r b then 1 else 0)) (Tab.of ([])) := by
  refine pco_of_run [1] (E := ⟨[c116, c187], []⟩) (m := false) (base := 0) (Env.ok_cons c116_ok (Env.ok_cons c187_ok Env.ok_nil)) G_ok mix 300 6 Try.func195 (by kernel_rfl) rfl (by kernel_rfl) (by kernel_rfl) rfl ?_
  simp [Try.f195]
  simp at hpre
  first | done | exact hpre | omega
theorem c195_ok : c195.ok Try.prog := mkCon_ok fun ⟨a, b, r⟩ hpre => c195_pc a b r hpre
/-- slices.insertionSortCmpFunc[loop.example/g03007/impl.Find] -/
noncomputable def c265 : Con := mkCon 265 true (α := (List TFind) × Int × Int × TReport) (fun x => (fun (l : List TFind) (a : Int) (b : Int) (r : TReport) => ([.own (0, 0) 8 0 l.length, dI a, dI b, .fn (.func 195) [] [.ptr (1, 0) 0]] : List D)) x.1 x.2.1 x.2.2.1 x.2.2.2) (fun x => (fun (l : List TFind) (a : Int) (b : Int) (r : TReport) => ([((0, 0), .arr false 8 yTFind (ML encTFind l)), ((1, 0), .box (encTReport r))] : List (Nm × OO))) x.1 x.2.1 x.2.2.1 x.2.2.2) (fun x => (fun (l : List TFind) (a : Int) (b : Int) (r : TReport) => l.length ≤ 20 ∧ 0 ≤ a ∧ a ≤ 20 ∧ b = l.length ∧ (a = 0 ∨ b ≤ a) ∧ smR r) x.1 x.2.1 x.2.2.1 x.2.2.2) (fun x => (fun (l : List TFind) (a : Int) (b : Int) (r : TReport) => (.tup [] : D)) x.1 x.2.1 x.2.2.1 x.2.2.2) (fun x => (fun (l : List TFind) (a : Int) (b : Int) (r : TReport) => ([((0, 0), .arr false 8 yTFind (ML encTFind (if a = 0 then sortF r l l.length else l))), ((1, 0), .box (encTReport r))] : List (Nm × OO))) x.1 x.2.1 x.2.2.1 x.2.2.2)
@[simp] theorem c265_f : c265.f = 265 := rfl
@[simp] theorem c265_own : c265.own = true := rfl
theorem c265_inj : ∀ u_ v_ : (List TFind) × Int × Int × TReport, ((fun x => (fun (l : List TFind) (a : Int) (b : Int) (r : TReport) => ([.own (0, 0) 8 0 l.length, dI a, dI b, .fn (.func 195) [] [.ptr (1, 0) 0]] : List D)) x.1 x.2.1 x.2.2.1 x.2.2.2) u_).map nz = ((fun x => (fun (l : List TFind) (a : Int) (b : Int) (r : TReport) => ([.own (0, 0) 8 0 l.length, dI a, dI b, .fn (.func 195) [] [.ptr (1, 0) 0]] : List D)) x.1 x.2.1 x.2.2.1 x.2.2.2) v_).map nz → (fun x => (fun (l : List TFind) (a : Int) (b : Int) (r : TReport) => ([((0, 0), .arr false 8 yTFind (ML encTFind l)), ((1, 0), .box (encTReport r))] : List (Nm × OO))) x.1 x.2.1 x.2.2.1 x.2.2.2) u_ = (fun x => (fun (l : List TFind) (a : Int) (b : Int) (r : TReport) => ([((0, 0), .arr false 8 yTFind (ML encTFind l)), ((1, 0), .box (encTReport r))] : List (Nm × OO))) x.1 x.2.1 x.2.2.1 x.2.2.2) v_ → u_ = v_ := by
  intro u_ v_ h h2_
  obtain ⟨l, a, b, ⟨r_Id, r_Kind, r_Colours, r_SizeLow, r_SizeHigh, r_Places, ⟨r_Span_From, r_Span_Until⟩⟩⟩ := u_
  obtain ⟨l', a', b', ⟨r_Id', r_Kind', r_Colours', r_SizeLow', r_SizeHigh', r_Places', ⟨r_Span_From', r_Span_Until'⟩⟩⟩ := v_
  simp [nz_lit, nz1_lit, nz_agg, nz_sl, nz1_sl, nz_sx, nz_el, nz1_el, nz_own, nz1_own, nz_ptr, nz_fn, nz_iface] at h h2_
  first | (simp [h, h2_]; done) | (obtain ⟨h3_, h4_⟩ := List.append_inj h2_ h.1; simp_all; done) | simp_all | grind
@[simp] theorem c265_fn (l : List TFind) (a : Int) (b : Int) (r_Id : Int) (r_Kind : Int) (r_Colours : List Int) (r_SizeLow : Int) (r_SizeHigh : Int) (r_Places : List Int) (r_Span_From : Int) (r_Span_Until : Int) : c265.fn ([.own (0, 0) 8 0 l.length, dI a, dI b, .fn (.func 195) [] [.ptr (1, 0) 0]]) ([((0, 0), .arr false 8 yTFind (ML encTFind l)), ((1, 0), .box (.agg [.lit (.int .i64 r_Id), .lit (.int .i64 r_Kind), .sl false 1 (.lit (.int .i64 0)) (ML dI r_Colours), .lit (.int .i64 r_SizeLow), .lit (.int .i64 r_SizeHigh), .sl false 1 (.lit (.int .i64 0)) (ML dI r_Places), .lit (.int .i64 r_Span_From), .lit (.int .i64 r_Span_Until)]))]) = some (l.length ≤ 20 ∧ 0 ≤ a ∧ a ≤ 20 ∧ b = l.length ∧ (a = 0 ∨ b ≤ a) ∧ smR (⟨r_Id, r_Kind, r_Colours, r_SizeLow, r_SizeHigh, r_Places, ⟨r_Span_From, r_Span_Until⟩⟩ : TReport), .tup [], [((0, 0), .arr false 8 yTFind (ML encTFind (if a = 0 then sortF (⟨r_Id, r_Kind, r_Colours, r_SizeLow, r_SizeHigh, r_Places, ⟨r_Span_From, r_Span_Until⟩⟩ : TReport) l l.length else l))), ((1, 0), .box (.agg [.lit (.int .i64 r_Id), .lit (.int .i64 r_Kind), .sl false 1 (.lit (.int .i64 0)) (ML dI r_Colours), .lit (.int .i64 r_SizeLow), .lit (.int .i64 r_SizeHigh), .sl false 1 (.lit (.int .i64 0)) (ML dI r_Places), .lit (.int .i64 r_Span_From), .lit (.int .i64 r_Span_Until)]))]) :=
  mkCon_fn c265_inj ((l, a, b, ⟨r_Id, r_Kind, r_Colours, r_SizeLow, r_SizeHigh, r_Places, ⟨r_Span_From, r_Span_Until⟩⟩) : (List TFind) × Int × Int × TReport) rfl rfl
theorem c265_pc (l : List TFind) (a : Int) (b : Int) (r : TReport) (hpre : l.length ≤ 20 ∧ 0 ≤ a ∧ a ≤ 20 ∧ b = l.length ∧ (a = 0 ∨ b ≤ a) ∧ smR r) : PCo Try.prog 265 ([.own (0, 0) 8 0 l.length, dI a, dI b, .fn (.func 195) [] [.ptr (1, 0) 0]]) (Tab.of ([((0, 0), .arr false 8 yTFind (ML encTFind l)), ((1, 0), .box (encTReport r))])) (.tup []) (Tab.of ([((0, 0), .arr false 8 yTFind (ML encTFind (if a = 0 then sortF r l l.length else l))), ((1, 0), .box (encTReport r))])) := by
  refine pco_of_run [] (E := ⟨[c195], []⟩) (m := false) (base := 0) (Env.ok_cons c195_ok Env.ok_nil) G_ok mix 300 6 Try.func265 (by kernel_rfl) rfl (by kernel_rfl) (by kernel_rfl) rfl ?_
  simp [Try.f265]
  obtain ⟨hp, ha, ha2, hb, hab, hr⟩ := hpre
  subst hb
  refine ⟨by omega, ?_⟩
  by_cases h0 : a = 0 ∧ 0 < l.length
  · obtain ⟨h0, hl⟩ := h0
    subst h0
    have hstart : l = sortF r l 1 ++ l.tail := by have := sortK_one (lt := scLt r) (d := default) l hl; simpa using this.symm
    refine loop_inv (fun i : Nat => 1 ≤ i ∧ i ≤ l.length) (fun i => [(0, .own (0, 0) 8 0 l.length), (1, dI 0), (2, dI l.length), (3, .fn (.func 195) [] [.ptr (1, 0) 0]), (8, dI i)]) (fun i => [((0, 0), .arr false 8 yTFind (ML encTFind (sortF r l i ++ l.drop i))), ((1, 0), .box (encTReport r))]) 2 (fun i => l.length - i) 1 400 (by simp) (by simp; omega) (by simp; exact hstart) ?_
    intro i ⟨hi1, hi⟩
    simp
    refine ⟨fun hlt => ?_, fun hge => ?_⟩
    · have hPl : (sortF r l i).length = i := sortK_len l i
      have hst := rowK_start (lt := scLt r) (d := default) l hlt
      refine loop_inv (fun j : Nat => j ≤ i ∧ cutF (scLt r) default (l[i]?.getD default) (sortF r l i) i = cutF (scLt r) default (l[i]?.getD default) (sortF r l i) j) (fun j => [(0, .own (0, 0) 8 0 l.length), (1, dI 0), (2, dI l.length), (3, .fn (.func 195) [] [.ptr (1, 0) 0]), (8, dI i), (9, dI j)]) (fun j => [((0, 0), .arr false 8 yTFind (ML encTFind (rowK (l[i]?.getD default) (sortF r l i) (l.drop (i + 1)) j))), ((1, 0), .box (encTReport r))]) 2 (fun j => j) i 400 (by simp) (by simp) (by simp [← hst]) ?_
      intro j ⟨hj, hc⟩
      have hrl : (rowK (l[i]?.getD default) (sortF r l i) (l.drop (i + 1)) j).length = l.length := by
        rw [rowK_len _ _ _ (by omega), hPl]; simp; omega
      cases j with
      | zero =>
        have hstop := rowK_stop (lt := scLt r) (d := default) l (i := i) (j := 0) (by rw [hc]; rfl)
        simp
        refine ⟨by omega, Again.mk (i + 1) ⟨by omega, by omega⟩ (by simp [hstop]) (by first | omega | (simp; omega))⟩
      | succ j =>
        have h1 := rowK_at (d := default) (l[i]?.getD default) (sortF r l i) (l.drop (i + 1)) (j := j + 1) (by omega)
        have h2 := rowK_before (d := default) (l[i]?.getD default) (sortF r l i) (l.drop (i + 1)) (j := j) (by omega)
        have hset := rowK_swap (d := default) (l[i]?.getD default) (sortF r l i) (l.drop (i + 1)) (j := j) (by omega)
        have e1 : ((j : Int) + 1 - 1).toNat = j := by omega
        have e2 : ((j : Int) + 1).toNat = j + 1 := by omega
        simp [e1, e2, h1, h2, hset, hrl]
        simp at hr
        have hcn := cmp_neg (mScore r ((sortF r l i)[j]?.getD default)) (mScore r (l[i]?.getD default))
        have hcs : cutF (scLt r) default (l[i]?.getD default) (sortF r l i) (j + 1) = if scLt r (l[i]?.getD default) ((sortF r l i)[j]?.getD default) then cutF (scLt r) default (l[i]?.getD default) (sortF r l i) j else j + 1 := rfl
        have hld : scLt r (l[i]?.getD default) ((sortF r l i)[j]?.getD default) = decide (mScore r ((sortF r l i)[j]?.getD default) < mScore r (l[i]?.getD default)) := rfl
        refine ⟨⟨by omega, by omega, by omega, by omega, hr⟩, fun hw => ?_, fun hw => ?_⟩
        · rw [hcn] at hw
          refine ⟨by omega, by omega, Again.mk j ⟨by omega, by rw [hc, hcs, if_pos (by rw [hld]; simpa using hw)]⟩ (by simp) (by first | omega | (simp; omega))⟩
        · have hw2 : ¬ mScore r ((sortF r l i)[j]?.getD default) < mScore r (l[i]?.getD default) := by rw [← hcn]; omega
          have hstop := rowK_stop (lt := scLt r) (d := default) l (i := i) (j := j + 1) (by rw [hc, hcs, if_neg (by rw [hld]; simpa using hw2)])
          exact ⟨by omega, Again.mk (i + 1) ⟨by omega, by omega⟩ (by simp [hstop]) (by first | omega | (simp; omega))⟩
    · have : i = l.length := by omega
      subst this
      simp
  · have hend : ¬ a + 1 < l.length := by omega
    have hrow : (if a = 0 then sortF r l l.length else l) = l := by
      split
      · have : l = [] := List.eq_nil_of_length_eq_zero (by omega)
        subst this; rfl
      · rfl
    refine loop_inv (fun _ : Unit => True) (fun _ => [(0, .own (0, 0) 8 0 l.length), (1, dI a), (2, dI l.length), (3, .fn (.func 195) [] [.ptr (1, 0) 0]), (8, dI (a + 1))]) (fun _ => [((0, 0), .arr false 8 yTFind (ML encTFind l)), ((1, 0), .box (encTReport r))]) 2 (fun _ => 0) () 400 (by simp) (by simp) (by simp) ?_
    intro u _
    simp [hend, hrow]
theorem c265_ok : c265.ok Try.prog := mkCon_ok fun ⟨l, a, b, r⟩ hpre => c265_pc l a b r hpre
/-- slices.stableCmpFunc[loop.example/g03007/impl.Find] -/
noncomputable def c245 : Con := mkCon 245 true (α := (List TFind) × Int × TReport) (fun x => (fun (l : List TFind) (n : Int) (r : TReport) => ([.own (0, 0) 8 0 l.length, dI n, .fn (.func 195) [] [.ptr (1, 0) 0]] : List D)) x.1 x.2.1 x.2.2) (fun x => (fun (l : List TFind) (n : Int) (r : TReport) => ([((0, 0), .arr false 8 yTFind (ML encTFind l)), ((1, 0), .box (encTReport r))] : List (Nm × OO))) x.1 x.2.1 x.2.2) (fun x => (fun (l : List TFind) (n : Int) (r : TReport) => l.length ≤ 20 ∧ n = l.length ∧ smR r) x.1 x.2.1 x.2.2) (fun x => (fun (l : List TFind) (n : Int) (r : TReport) => (.tup [] : D)) x.1 x.2.1 x.2.2) (fun x => (fun (l : List TFind) (n : Int) (r : TReport) => ([((0, 0), .arr false 8 yTFind (ML encTFind (sortF r l l.length))), ((1, 0), .box (encTReport r))] : List (Nm × OO))) x.1 x.2.1 x.2.2)
@[simp] theorem c245_f : c245.f = 245 := rfl
@[simp] theorem c245_own : c245.own = true := rfl
theorem c245_inj : ∀ u_ v_ : (List TFind) × Int × TReport, ((fun x => (fun (l : List TFind) (n : Int) (r : TReport) => ([.own (0, 0) 8 0 l.length, dI n, .fn (.func 195) [] [.ptr (1, 0) 0]] : List D)) x.1 x.2.1 x.2.2) u_).map nz = ((fun x => (fun (l : List TFind) (n : Int) (r : TReport) => ([.own (0, 0) 8 0 l.length, dI n, .fn (.func 195) [] [.ptr (1, 0) 0]] : List D)) x.1 x.2.1 x.2.2) v_).map nz → (fun x => (fun (l : List TFind) (n : Int) (r : TReport) => ([((0, 0), .arr false 8 yTFind (ML encTFind l)), ((1, 0), .box (encTReport r))] : List (Nm × OO))) x.1 x.2.1 x.2.2) u_ = (fun x => (fun (l : List TFind) (n : Int) (r : TReport) => ([((0, 0), .arr false 8 yTFind (ML encTFind l)), ((1, 0), .box (encTReport r))] : List (Nm × OO))) x.1 x.2.1 x.2.2) v_ → u_ = v_ := by
  intro u_ v_ h h2_
  obtain ⟨l, n, ⟨r_Id, r_Kind, r_Colours, r_SizeLow, r_SizeHigh, r_Places, ⟨r_Span_From, r_Span_Until⟩⟩⟩ := u_
  obtain ⟨l', n', ⟨r_Id', r_Kind', r_Colours', r_SizeLow', r_SizeHigh', r_Places', ⟨r_Span_From', r_Span_Until'⟩⟩⟩ := v_
  simp [nz_lit, nz1_lit, nz_agg, nz_sl, nz1_sl, nz_sx, nz_el, nz1_el, nz_own, nz1_own, nz_ptr, nz_fn, nz_iface] at h h2_
  first | (simp [h, h2_]; done) | (obtain ⟨h3_, h4_⟩ := List.append_inj h2_ h.1; simp_all; done) | simp_all | grind
@[simp] theorem c245_fn (l : List TFind) (n : Int) (r_Id : Int) (r_Kind : Int) (r_Colours : List Int) (r_SizeLow : Int) (r_SizeHigh : Int) (r_Places : List Int) (r_Span_From : Int) (r_Span_Until : Int) : c245.fn ([.own (0, 0) 8 0 l.length, dI n, .fn (.func 195) [] [.ptr (1, 0) 0]]) ([((0, 0), .arr false 8 yTFind (ML encTFind l)), ((1, 0), .box (.agg [.lit (.int .i64 r_Id), .lit (.int .i64 r_Kind), .sl false 1 (.lit (.int .i64 0)) (ML dI r_Colours), .lit (.int .i64 r_SizeLow), .lit (.int .i64 r_SizeHigh), .sl false 1 (.lit (.int .i64 0)) (ML dI r_Places), .lit (.int .i64 r_Span_From), .lit (.int .i64 r_Span_Until)]))]) = some (l.length ≤ 20 ∧ n = l.length ∧ smR (⟨r_Id, r_Kind, r_Colours, r_SizeLow, r_SizeHigh, r_Places, ⟨r_Span_From, r_Span_Until⟩⟩ : TReport), .tup [], [((0, 0), .arr false 8 yTFind (ML encTFind (sortF (⟨r_Id, r_Kind, r_Colours, r_SizeLow, r_SizeHigh, r_Places, ⟨r_Span_From, r_Span_Until⟩⟩ : TReport) l l.length))), ((1, 0), .box (.agg [.lit (.int .i64 r_Id), .lit (.int .i64 r_Kind), .sl false 1 (.lit (.int .i64 0)) (ML dI r_Colours), .lit (.int .i64 r_SizeLow), .lit (.int .i64 r_SizeHigh), .sl false 1 (.lit (.int .i64 0)) (ML dI r_Places), .lit (.int .i64 r_Span_From), .lit (.int .i64 r_Span_Until)]))]) :=
  mkCon_fn c245_inj ((l, n, ⟨r_Id, r_Kind, r_Colours, r_SizeLow, r_SizeHigh, r_Places, ⟨r_Span_From, r_Span_Until⟩⟩) : (List TFind) × Int × TReport) rfl rfl
theorem c245_pc (l : List TFind) (n : Int) (r : TReport) (hpre : l.length ≤ 20 ∧ n = l.length ∧ smR r) : PCo Try.prog 245 ([.own (0, 0) 8 0 l.length, dI n, .fn (.func 195) [] [.ptr (1, 0) 0]]) (Tab.of ([((0, 0), .arr false 8 yTFind (ML encTFind l)), ((1, 0), .box (encTReport r))])) (.tup []) (Tab.of ([((0, 0), .arr false 8 yTFind (ML encTFind (sortF r l l.length))), ((1, 0), .box (encTReport r))])) := by
  refine pco_of_run [] (E := ⟨[c265, c195, c265], []⟩) (m := false) (base := 0) (Env.ok_cons c265_ok (Env.ok_cons c195_ok (Env.ok_cons c265_ok Env.ok_nil))) G_ok mix 300 6 Try.func245 (by kernel_rfl) rfl (by kernel_rfl) (by kernel_rfl) rfl ?_
  simp [Try.f245]
  obtain ⟨hp, hn, hr⟩ := hpre
  subst hn
  simp at hr
  have hsl : (sortF r l l.length).length = l.length := sortK_len l _
  have hfn : ∀ a b : Int, c265.fn [.own (0, 0) 8 0 l.length, dI a, dI b, .fn (.func 195) [] [.ptr (1, 0) 0]] [((0, 0), .arr false 8 yTFind (ML encTFind (sortF r l l.length))), ((1, 0), .box (encTReport r))] = some (l.length ≤ 20 ∧ 0 ≤ a ∧ a ≤ 20 ∧ b = l.length ∧ (a = 0 ∨ b ≤ a) ∧ smR r, .tup [], [((0, 0), .arr false 8 yTFind (ML encTFind (if a = 0 then sortF r (sortF r l l.length) l.length else sortF r l l.length))), ((1, 0), .box (encTReport r))]) := fun a b => by
    have h := c265_fn (sortF r l l.length) a b r.Id r.Kind r.Colours r.SizeLow r.SizeHigh r.Places r.Span.From r.Span.Until
    simp only [hsl] at h
    exact h
  simp only [encTReport] at hfn
  have hno : ¬ (20 : Int) < l.length := by omega
  refine loop_inv (fun k : Nat => k = 0 ∨ (k = 1 ∧ l.length = 20)) (fun k => [(0, .own (0, 0) 8 0 l.length), (1, dI l.length), (2, .fn (.func 195) [] [.ptr (1, 0) 0]), (6, dI 20), (7, dI (20 * k)), (8, dI (20 + 20 * k))]) (fun k => [((0, 0), .arr false 8 yTFind (ML encTFind (if k = 0 then l else sortF r l l.length))), ((1, 0), .box (encTReport r))]) 2 (fun k => 1 - k) 0 400 (by simp) (by simp) (by simp) ?_
  intro k hk
  rcases hk with rfl | ⟨rfl, h20⟩
  · by_cases h20 : l.length = 20
    · have hle : (20 : Int) ≤ l.length := by omega
      simp [hle]
      refine ⟨⟨by omega, by omega, hr⟩, Again.mk 1 (.inr ⟨rfl, h20⟩) (by simp) (by simp)⟩
    · have hle : ¬ (20 : Int) ≤ l.length := by omega
      simp [hle]
      refine ⟨⟨by omega, hr⟩, ?_⟩
      refine loop_inv (fun _ : Unit => True) (fun _ => [(0, .own (0, 0) 8 0 l.length), (1, dI l.length), (2, .fn (.func 195) [] [.ptr (1, 0) 0]), (6, dI 20)]) (fun _ => [((0, 0), .arr false 8 yTFind (ML encTFind (sortF r l l.length))), ((1, 0), .box (encTReport r))]) 2 (fun _ => 0) () 400 (by simp) (by simp) (by simp) ?_
      intro u _
      simp [hno]
  · have hle : ¬ (40 : Int) ≤ l.length := by omega
    simp [hle, hfn]
    refine ⟨⟨by omega, by omega, hr⟩, ?_⟩
    refine loop_inv (fun _ : Unit => True) (fun _ => [(0, .own (0, 0) 8 0 l.length), (1, dI l.length), (2, .fn (.func 195) [] [.ptr (1, 0) 0]), (6, dI 20)]) (fun _ => [((0, 0), .arr false 8 yTFind (ML encTFind (sortF r l l.length))), ((1, 0), .box (encTReport r))]) 2 (fun _ => 0) () 400 (by simp) (by simp) (by simp) ?_
    intro u _
    simp [hno]
theorem c245_ok : c245.ok Try.prog := mkCon_ok fun ⟨l, n, r⟩ hpre => c245_pc l n r hpre
/-- slices.SortStableFunc[[]loop.example/g03007/impl.Fin -/
noncomputable def c194 : Con := mkCon 194 true (α := (List TFind) × TReport) (fun x => (fun (l : List TFind) (r : TReport) => ([.own (0, 0) 8 0 l.length, .fn (.func 195) [] [.ptr (1, 0) 0]] : List D)) x.1 x.2) (fun x => (fun (l : List TFind) (r : TReport) => ([((0, 0), .arr false 8 yTFind (ML encTFind l)), ((1, 0), .box (encTReport r))] : List (Nm × OO))) x.1 x.2) (fun x => (fun (l : List TFind) (r : TReport) => l.length ≤ 20 ∧ smR r) x.1 x.2) (fun x => (fun (l : List TFind) (r : TReport) => (.tup [] : D)) x.1 x.2) (fun x => (fun (l : List TFind) (r : TReport) => ([((0, 0), .arr false 8 yTFind (ML encTFind (sortF r l l.length))), ((1, 0), .box (encTReport r))] : List (Nm × OO))) x.1 x.2)
@[simp] theorem c194_f : c194.f = 194 := rfl
@[simp] theorem c194_own : c194.own = true := rfl
theorem c194_inj : ∀ u_ v_ : (List TFind) × TReport, ((fun x => (fun (l : List TFind) (r : TReport) => ([.own (0, 0) 8 0 l.length, .fn (.func 195) [] [.ptr (1, 0) 0]] : List D)) x.1 x.2) u_).map nz = ((fun x => (fun (l : List TFind) (r : TReport) => ([.own (0, 0) 8 0 l.length, .fn (.func 195) [] [.ptr (1, 0) 0]] : List D)) x.1 x.2) v_).map nz → (fun x => (fun (l : List TFind) (r : TReport) => ([((0, 0), .arr false 8 yTFind (ML encTFind l)), ((1, 0), .box (encTReport r))] : List (Nm × OO))) x.1 x.2) u_ = (fun x => (fun (l : List TFind) (r : TReport) => ([((0, 0), .arr false 8 yTFind (ML encTFind l)), ((1, 0), .box (encTReport r))] : List (Nm × OO))) x.1 x.2) v_ → u_ = v_ := by
  intro u_ v_ h h2_
  obtain ⟨l, ⟨r_Id, r_Kind, r_Colours, r_SizeLow, r_SizeHigh, r_Places, ⟨r_Span_From, r_Span_Until⟩⟩⟩ := u_
  obtain ⟨l', ⟨r_Id', r_Kind', r_Colours', r_SizeLow', r_SizeHigh', r_Places', ⟨r_Span_From', r_Span_Until'⟩⟩⟩ := v_
  simp [nz_lit, nz1_lit, nz_agg, nz_sl, nz1_sl, nz_sx, nz_el, nz1_el, nz_own, nz1_own, nz_ptr, nz_fn, nz_iface] at h h2_
  first | (simp [h, h2_]; done) | (obtain ⟨h3_, h4_⟩ := List.append_inj h2_ h.1; simp_all; done) | simp_all | grind
@[simp] theorem c194_fn (l : List TFind) (r_Id : Int) (r_Kind : Int) (r_Colours : List Int) (r_SizeLow : Int) (r_SizeHigh : Int) (r_Places : List Int) (r_Span_From : Int) (r_Span_Until : Int) : c194.fn ([.own (0, 0) 8 0 l.length, .fn (.func 195) [] [.ptr (1, 0) 0]]) ([((0, 0), .arr false 8 yTFind (ML encTFind l)), ((1, 0), .box (.agg [.lit (.int .i64 r_Id), .lit (.int .i64 r_Kind), .sl false 1 (.lit (.int .i64 0)) (ML dI r_Colours), .lit (.int .i64 r_SizeLow), .lit (.int .i64 r_SizeHigh), .sl false 1 (.lit (.int .i64 0)) (ML dI r_Places), .lit (.int .i64 r_Span_From), .lit (.int .i64 r_Span_Until)]))]) = some (l.length ≤ 20 ∧ smR (⟨r_Id, r_Kind, r_Colours, r_SizeLow, r_SizeHigh, r_Places, ⟨r_Span_From, r_Span_Until⟩⟩ : TReport), .tup [], [((0, 0), .arr false 8 yTFind (ML encTFind (sortF (⟨r_Id, r_Kind, r_Colours, r_SizeLow, r_SizeHigh, r_Places, ⟨r_Span_From, r_Span_Until⟩⟩ : TReport) l l.length))), ((1, 0), .box (.agg [.lit (.int .i64 r_Id), .lit (.int .i64 r_Kind), .sl false 1 (.lit (.int .i64 0)) (ML dI r_Colours), .lit (.int .i64 r_SizeLow), .lit (.int .i64 r_SizeHigh), .sl false 1 (.lit (.int .i64 0)) (ML dI r_Places), .lit (.int .i64 r_Span_From), .lit (.int .i64 r_Span_Until)]))]) :=
  mkCon_fn c194_inj ((l, ⟨r_Id, r_Kind, r_Colours, r_SizeLow, r_SizeHigh, r_Places, ⟨r_Span_From, r_Span_Until⟩⟩) : (List TFind) × TReport) rfl rfl
theorem c194_pc (l : List TFind) (r : TReport) (hpre : l.length ≤ 20 ∧ smR r) : PCo Try.prog 194 ([.own (0, 0) 8 0 l.length, .fn (.func 195) [] [.ptr (1, 0) 0]]) (Tab.of ([((0, 0), .arr false 8 yTFind (ML encTFind l)), ((1, 0), .box (encTReport r))])) (.tup []) (Tab.of ([((0, 0), .arr false 8 yTFind (ML encTFind (sortF r l l.length))), ((1, 0), .box (encTReport r))])) := by
  refine pco_of_run [] (E := ⟨[c245, c195, c245], []⟩) (m := false) (base := 0) (Env.ok_cons c245_ok (Env.ok_cons c195_ok (Env.ok_cons c245_ok Env.ok_nil))) G_ok mix 300 6 Try.func194 (by kernel_rfl) rfl (by kernel_rfl) (by kernel_rfl) rfl ?_
  simp [Try.f194]
  simpa using hpre
theorem c194_ok : c194.ok Try.prog := mkCon_ok fun ⟨l, r⟩ hpre => c194_pc l r hpre
/-- loop.example/g03007/impl.ranked -/
noncomputable def c115 : Con := mkCon 115 false (α := TReport × (List TFind)) (fun x => (fun (r : TReport) (l : List TFind) => [encTReport r, encLTFind l]) x.1 x.2) (fun _ => []) (fun x => (fun (r : TReport) (l : List TFind) => smR r ∧ l.length ≤ 20) x.1 x.2) (fun x => (fun (r : TReport) (l : List TFind) => (.own (0, 1) 8 0 l.length : D)) x.1 x.2) (fun x => (fun (r : TReport) (l : List TFind) => [((0, 1), .arr false 8 yTFind (ML encTFind (sortF r l l.length)))]) x.1 x.2)
@[simp] theorem c115_f : c115.f = 115 := rfl
@[simp] theorem c115_own : c115.own = false := rfl
theorem c115_inj : ∀ u_ v_ : TReport × (List TFind), ((fun x => (fun (r : TReport) (l : List TFind) => [encTReport r, encLTFind l]) x.1 x.2) u_).map nz = ((fun x => (fun (r : TReport) (l : List TFind) => [encTReport r, encLTFind l]) x.1 x.2) v_).map nz → u_ = v_ := by
  intro u_ v_ h
  obtain ⟨⟨r_Id, r_Kind, r_Colours, r_SizeLow, r_SizeHigh, r_Places, ⟨r_Span_From, r_Span_Until⟩⟩, l⟩ := u_
  obtain ⟨⟨r_Id', r_Kind', r_Colours', r_SizeLow', r_SizeHigh', r_Places', ⟨r_Span_From', r_Span_Until'⟩⟩, l'⟩ := v_
  simp [nz_lit, nz1_lit, nz_agg, nz_sl, nz1_sl, encLI, encLTFind, encTReport, encTSpan] at h
  first | (simp [h]; done) | (obtain ⟨⟩ := h; simp_all; done) | simp_all
@[simp] theorem c115_fn (r_Id : Int) (r_Kind : Int) (r_Colours : List Int) (r_SizeLow : Int) (r_SizeHigh : Int) (r_Places : List Int) (r_Span_From : Int) (r_Span_Until : Int) (l : List TFind) : c115.fn [.agg [.lit (.int .i64 r_Id), .lit (.int .i64 r_Kind), .sl false 1 (.lit (.int .i64 0)) (ML dI r_Colours), .lit (.int .i64 r_SizeLow), .lit (.int .i64 r_SizeHigh), .sl false 1 (.lit (.int .i64 0)) (ML dI r_Places), .lit (.int .i64 r_Span_From), .lit (.int .i64 r_Span_Until)], .sl false 8 yTFind (ML encTFind l)] [] = some ((fun (r : TReport) (l : List TFind) => smR r ∧ l.length ≤ 20) ⟨r_Id, r_Kind, r_Colours, r_SizeLow, r_SizeHigh, r_Places, ⟨r_Span_From, r_Span_Until⟩⟩ l, (fun (r : TReport) (l : List TFind) => (.own (0, 1) 8 0 l.length : D)) ⟨r_Id, r_Kind, r_Colours, r_SizeLow, r_SizeHigh, r_Places, ⟨r_Span_From, r_Span_Until⟩⟩ l, (fun (r : TReport) (l : List TFind) => [((0, 1), .arr false 8 yTFind (ML encTFind (sortF r l l.length)))]) ⟨r_Id, r_Kind, r_Colours, r_SizeLow, r_SizeHigh, r_Places, ⟨r_Span_From, r_Span_Until⟩⟩ l) :=
  mkCon_fn (fun x y h _ => c115_inj x y h) ((⟨r_Id, r_Kind, r_Colours, r_SizeLow, r_SizeHigh, r_Places, ⟨r_Span_From, r_Span_Until⟩⟩, l) : TReport × (List TFind)) (by simp [nz, nz1, ML_nil, encLI, encLTFind, encTReport, encTSpan]) rfl
@[simp] theorem c115_fn1 (r_Id : Int) (r_Kind : Int) (r_Colours : List Int) (r_SizeLow : Int) (r_SizeHigh : Int) (r_Places : List Int) (r_Span_From : Int) (r_Span_Until : Int) (s_l : Nat) (z_l : D) : c115.fn [.agg [.lit (.int .i64 r_Id), .lit (.int .i64 r_Kind), .sl false 1 (.lit (.int .i64 0)) (ML dI r_Colours), .lit (.int .i64 r_SizeLow), .lit (.int .i64 r_SizeHigh), .sl false 1 (.lit (.int .i64 0)) (ML dI r_Places), .lit (.int .i64 r_Span_From), .lit (.int .i64 r_Span_Until)], .sl false s_l z_l []] [] = some ((fun (r : TReport) (l : List TFind) => smR r ∧ l.length ≤ 20) ⟨r_Id, r_Kind, r_Colours, r_SizeLow, r_SizeHigh, r_Places, ⟨r_Span_From, r_Span_Until⟩⟩ [], (fun (r : TReport) (l : List TFind) => (.own (0, 1) 8 0 l.length : D)) ⟨r_Id, r_Kind, r_Colours, r_SizeLow, r_SizeHigh, r_Places, ⟨r_Span_From, r_Span_Until⟩⟩ [], (fun (r : TReport) (l : List TFind) => [((0, 1), .arr false 8 yTFind (ML encTFind (sortF r l l.length)))]) ⟨r_Id, r_Kind, r_Colours, r_SizeLow, r_SizeHigh, r_Places, ⟨r_Span_From, r_Span_Until⟩⟩ []) :=
  mkCon_fn (fun x y h _ => c115_inj x y h) ((⟨r_Id, r_Kind, r_Colours, r_SizeLow, r_SizeHigh, r_Places, ⟨r_Span_From, r_Span_Until⟩⟩, []) : TReport × (List TFind)) (by simp [nz, nz1, ML_nil, encLI, encLTFind, encTReport, encTSpan]) rfl
theorem c115_pc (r : TReport) (l : List TFind) (hpre : smR r ∧ l.length ≤ 20) : PCo Try.prog 115 [encTReport r, encLTFind l] (Tab.of []) (.own (0, 1) 8 0 l.length) (Tab.of [((0, 1), .arr false 8 yTFind (ML encTFind (sortF r l l.length)))]) := by
  refine pco_of_run [] (E := ⟨[c194, c195], []⟩) (m := false) (base := 0) (Env.ok_cons c194_ok (Env.ok_cons c195_ok Env.ok_nil)) G_ok mix 300 6 Try.func115 (by kernel_rfl) rfl (by kernel_rfl) (by kernel_rfl) rfl ?_
  simp [Try.f115]
  simp at hpre
  refine ⟨by omega, by omega, hpre.1⟩
theorem c115_ok : c115.ok Try.prog := mkCon_ok fun ⟨r, l⟩ hpre => c115_pc r l hpre
def headOf (r : TReport) (l : List TFind) (p : Nat) : TFind := (sortF r l p)[0]?.getD default
theorem cutF_all (r : TReport) (x : TFind) (P : List TFind) (h : ∀ j, j < P.length → scLt r x (P[j]?.getD default) = true) : ∀ j, j ≤ P.length → cutF (scLt r) default x P j = 0
  | 0, _ => rfl
  | j + 1, hj => by simp only [cutF]; rw [if_pos (h j (by omega))]; exact cutF_all r x P h j (by omega)
theorem cutF_pos (r : TReport) (x : TFind) (P : List TFind) (h : scLt r x (P[0]?.getD default) = false) : ∀ j, 0 < j → 0 < cutF (scLt r) default x P j
  | 0, h0 => by omega
  | j + 1, _ => by
    simp only [cutF]
    split
    · by_cases hj : j = 0
      · subst hj; rename_i h2; rw [h] at h2; cases h2
      · exact cutF_pos r x P h j (by omega)
    · omega
theorem head_step (r : TReport) (l : List TFind) : ∀ p, 0 < p → p ≤ l.length → (∀ y ∈ sortF r l p, mScore r y ≤ mScore r (headOf r l p)) ∧ (∀ q, p = q + 1 → headOf r l p = if q = 0 then l[0]?.getD default else if mScore r (headOf r l q) < mScore r (l[q]?.getD default) then l[q]?.getD default else headOf r l q)
  | 0, h, _ => by omega
  | 1, _, hl => by
    have e : sortF r l 1 = [l[0]?.getD default] := rfl
    refine ⟨fun y hy => ?_, fun q hq => ?_⟩
    · rw [headOf, e] at *; simp at hy ⊢; rw [hy]; exact Int.le_refl _
    · have : q = 0 := by omega
      subst this; rw [headOf, e]; rfl
  | p + 2, _, hl => by
    have ih := head_step r l (p + 1) (by omega) (by omega)
    have hlen : (sortF r l (p + 1)).length = p + 1 := sortK_len l _
    have e : sortF r l (p + 2) = insK (scLt r) default (l[p + 1]?.getD default) (sortF r l (p + 1)) := rfl
    have hh : headOf r l (p + 2) = if mScore r (headOf r l (p + 1)) < mScore r (l[p + 1]?.getD default) then l[p + 1]?.getD default else headOf r l (p + 1) := by
      rw [headOf, e, insK, hlen]
      split
      · rename_i hlt
        rw [cutF_all r _ _ (fun j hj => ?_) _ (by omega)]
        · rfl
        · have := ih.1 _ (getD_mem (d := default) hj)
          simp only [scLt, decide_eq_true_eq]; omega
      · rename_i hlt
        have hc := cutF_pos r (l[p + 1]?.getD default) (sortF r l (p + 1)) (by simp only [scLt, decide_eq_false_iff_not]; exact hlt) (p + 1) (by omega)
        rw [List.getElem?_append_left (by simp; omega), List.getElem?_take, if_pos hc]; rfl
    refine ⟨fun y hy => ?_, fun q hq => ?_⟩
    · have hmem : y = l[p + 1]?.getD default ∨ y ∈ sortF r l (p + 1) := by
        rw [e, insK, List.mem_append, List.mem_cons] at hy
        rcases hy with hy | hy | hy
        · exact .inr (List.mem_of_mem_take hy)
        · exact .inl hy
        · exact .inr (List.mem_of_mem_drop hy)
      rw [hh]
      rcases hmem with rfl | hmem
      · split <;> omega
      · have := ih.1 y hmem
        split <;> omega
    · have : q = p + 1 := by omega
      subst this; rw [if_neg (by omega)]; exact hh
def mBest (r : TReport) (l : List TFind) (p : Nat) : Int := if p = 0 ∨ mScore r (headOf r l p) = 0 then 0 else (headOf r l p).Thing.Id
def mMost (r : TReport) (l : List TFind) (p : Nat) : Int := if p = 0 then 0 else mScore r (headOf r l p)
theorem b2i_le (b : Bool) : 0 ≤ b2i b := (b2i_bd b).1
theorem score_bd (r : TReport) (f : TFind) : 0 ≤ mScore r f ∧ mScore r f ≤ 5 := by
  have h1 := b2i_bd (mIn r.Colours.length 1 2)
  have h2 := b2i_bd (decide (r.SizeHigh - r.SizeLow ≤ 5))
  have h3 := b2i_bd (mIn r.Places.length 1 2)
  have h4 := b2i_bd (decide (f.At ≤ r.Span.Until + 24))
  simp only [mScore]; split <;> omega
theorem best_step (r : TReport) (l : List TFind) {p : Nat} (hp : p < l.length) : (mMost r l p < mScore r (l[p]?.getD default) → mMost r l (p + 1) = mScore r (l[p]?.getD default) ∧ mBest r l (p + 1) = (l[p]?.getD default).Thing.Id) ∧ (¬ mMost r l p < mScore r (l[p]?.getD default) → mMost r l (p + 1) = mMost r l p ∧ mBest r l (p + 1) = mBest r l p) := by
  have hs := (head_step r l (p + 1) (by omega) hp).2 p rfl
  have hb := score_bd r (l[p]?.getD default)
  simp only [mMost, mBest]
  by_cases h0 : p = 0
  · subst h0
    rw [if_pos rfl] at hs
    simp only [if_true, hs]
    refine ⟨fun h => ?_, fun h => ?_⟩
    · simp; omega
    · have : mScore r (l[0]?.getD default) = 0 := by omega
      simp [this]
  · rw [if_neg h0] at hs
    have hbh := score_bd r (headOf r l p)
    simp only [h0, if_false, false_or]
    refine ⟨fun h => ?_, fun h => ?_⟩
    · rw [if_pos h] at hs
      simp [hs]; omega
    · rw [if_neg h] at hs
      simp [hs]
def mBestOf (r : TReport) (l : List TFind) : Int := if mAreFinds l then mBest r l l.length else 0
/-- loop.example/g03007/impl.BestOf -/
noncomputable def c49 : Con := mkCon 49 false (α := TReport × (List TFind)) (fun x => (fun (r : TReport) (l : List TFind) => [encTReport r, encLTFind l]) x.1 x.2) (fun _ => []) (fun x => (fun (r : TReport) (l : List TFind) => smR r ∧ l.length ≤ 1073741823) x.1 x.2) (fun x => (fun (r : TReport) (l : List TFind) => (dI (mBestOf r l) : D)) x.1 x.2) (fun x => (fun (r : TReport) (l : List TFind) => []) x.1 x.2)
@[simp] theorem c49_f : c49.f = 49 := rfl
@[simp] theorem c49_own : c49.own = false := rfl
theorem c49_inj : ∀ u_ v_ : TReport × (List TFind), ((fun x => (fun (r : TReport) (l : List TFind) => [encTReport r, encLTFind l]) x.1 x.2) u_).map nz = ((fun x => (fun (r : TReport) (l : List TFind) => [encTReport r, encLTFind l]) x.1 x.2) v_).map nz → u_ = v_ := by
  intro u_ v_ h
  obtain ⟨⟨r_Id, r_Kind, r_Colours, r_SizeLow, r_SizeHigh, r_Places, ⟨r_Span_From, r_Span_Until⟩⟩, l⟩ := u_
  obtain ⟨⟨r_Id', r_Kind', r_Colours', r_SizeLow', r_SizeHigh', r_Places', ⟨r_Span_From', r_Span_Until'⟩⟩, l'⟩ := v_
  simp [nz_lit, nz1_lit, nz_agg, nz_sl, nz1_sl, encLI, encLTFind, encTReport, encTSpan] at h
  first | (simp [h]; done) | (obtain ⟨⟩ := h; simp_all; done) | simp_all
@[simp] theorem c49_fn (r_Id : Int) (r_Kind : Int) (r_Colours : List Int) (r_SizeLow : Int) (r_SizeHigh : Int) (r_Places : List Int) (r_Span_From : Int) (r_Span_Until : Int) (l : List TFind) : c49.fn [.agg [.lit (.int .i64 r_Id), .lit (.int .i64 r_Kind), .sl false 1 (.lit (.int .i64 0)) (ML dI r_Colours), .lit (.int .i64 r_SizeLow), .lit (.int .i64 r_SizeHigh), .sl false 1 (.lit (.int .i64 0)) (ML dI r_Places), .lit (.int .i64 r_Span_From), .lit (.int .i64 r_Span_Until)], .sl false 8 yTFind (ML encTFind l)] [] = some ((fun (r : TReport) (l : List TFind) => smR r ∧ l.length ≤ 1073741823) ⟨r_Id, r_Kind, r_Colours, r_SizeLow, r_SizeHigh, r_Places, ⟨r_Span_From, r_Span_Until⟩⟩ l, (fun (r : TReport) (l : List TFind) => (dI (mBestOf r l) : D)) ⟨r_Id, r_Kind, r_Colours, r_SizeLow, r_SizeHigh, r_Places, ⟨r_Span_From, r_Span_Until⟩⟩ l, (fun (r : TReport) (l : List TFind) => []) ⟨r_Id, r_Kind, r_Colours, r_SizeLow, r_SizeHigh, r_Places, ⟨r_Span_From, r_Span_Until⟩⟩ l) :=
  mkCon_fn (fun x y h _ => c49_inj x y h) ((⟨r_Id, r_Kind, r_Colours, r_SizeLow, r_SizeHigh, r_Places, ⟨r_Span_From, r_Span_Until⟩⟩, l) : TReport × (List TFind)) (by simp [nz, nz1, ML_nil, encLI, encLTFind, encTReport, encTSpan]) rfl
@[simp] theorem c49_fn1 (r_Id : Int) (r_Kind : Int) (r_Colours : List Int) (r_SizeLow : Int) (r_SizeHigh : Int) (r_Places : List Int) (r_Span_From : Int) (r_Span_Until : Int) (s_l : Nat) (z_l : D) : c49.fn [.agg [.lit (.int .i64 r_Id), .lit (.int .i64 r_Kind), .sl false 1 (.lit (.int .i64 0)) (ML dI r_Colours), .lit (.int .i64 r_SizeLow), .lit (.int .i64 r_SizeHigh), .sl false 1 (.lit (.int .i64 0)) (ML dI r_Places), .lit (.int .i64 r_Span_From), .lit (.int .i64 r_Span_Until)], .sl false s_l z_l []] [] = some ((fun (r : TReport) (l : List TFind) => smR r ∧ l.length ≤ 1073741823) ⟨r_Id, r_Kind, r_Colours, r_SizeLow, r_SizeHigh, r_Places, ⟨r_Span_From, r_Span_Until⟩⟩ [], (fun (r : TReport) (l : List TFind) => (dI (mBestOf r l) : D)) ⟨r_Id, r_Kind, r_Colours, r_SizeLow, r_SizeHigh, r_Places, ⟨r_Span_From, r_Span_Until⟩⟩ [], (fun (r : TReport) (l : List TFind) => []) ⟨r_Id, r_Kind, r_Colours, r_SizeLow, r_SizeHigh, r_Places, ⟨r_Span_From, r_Span_Until⟩⟩ []) :=
  mkCon_fn (fun x y h _ => c49_inj x y h) ((⟨r_Id, r_Kind, r_Colours, r_SizeLow, r_SizeHigh, r_Places, ⟨r_Span_From, r_Span_Until⟩⟩, []) : TReport × (List TFind)) (by simp [nz, nz1, ML_nil, encLI, encLTFind, encTReport, encTSpan]) rfl
theorem c49_pc (r : TReport) (l : List TFind) (hpre : smR r ∧ l.length ≤ 1073741823) : PCo Try.prog 49 [encTReport r, encLTFind l] (Tab.of []) (dI (mBestOf r l)) (Tab.of []) := by
  refine pco_of_run [] (E := ⟨[c114, c115, c116], []⟩) (m := false) (base := 0) (Env.ok_cons c114_ok (Env.ok_cons c115_ok (Env.ok_cons c116_ok Env.ok_nil))) G_ok mix 300 6 Try.func49 (by kernel_rfl) rfl (by kernel_rfl) (by kernel_rfl) rfl ?_
  obtain ⟨hr, hl⟩ := hpre
  simp at hr
  cases h : mAreFinds l with
  | false =>
    have hm : mBestOf r l = 0 := by rw [mBestOf, h]; rfl
    simp [Try.f49, h, hm]
    omega
  | true =>
    have hm : mBestOf r l = mBest r l l.length := by rw [mBestOf, h]; rfl
    have hd : headOf r l l.length = (sortF r l l.length)[0]?.getD default := rfl
    have hsl : (sortF r l l.length).length = l.length := sortK_len l _
    have h20 : l.length ≤ 20 := by simp only [mAreFinds, Bool.and_eq_true, decide_eq_true_eq] at h; exact h.1
    simp [Try.f49, h, hsl, ← hd]
    refine ⟨by omega, fun e => ?_, fun hne => ?_⟩
    · rw [hm, mBest, if_pos (.inl (by simp [e]))]
    · have hpos : 0 < l.length := List.length_pos_iff.2 hne
      refine ⟨⟨⟨hr, h20⟩, hpos⟩, hr, fun h0 => ?_, fun h0 => ?_⟩
      · rw [hm, mBest, if_pos (.inr h0)]
      · rw [hm, mBest, if_neg]
        rintro (e | e)
        · omega
        · exact h0 e
theorem c49_ok : c49.ok Try.prog := mkCon_ok fun ⟨r, l⟩ hpre => c49_pc r l hpre
/-- loop.example/g03007/spec.BestOf -/
noncomputable def c46 : Con := mkCon 46 false (α := TReport × (List TFind)) (fun x => (fun (r : TReport) (l : List TFind) => [encTReport r, encLTFind l]) x.1 x.2) (fun _ => []) (fun x => (fun (r : TReport) (l : List TFind) => smR r ∧ l.length ≤ 1073741823) x.1 x.2) (fun x => (fun (r : TReport) (l : List TFind) => (dI (mBestOf r l) : D)) x.1 x.2) (fun x => (fun (r : TReport) (l : List TFind) => []) x.1 x.2)
@[simp] theorem c46_f : c46.f = 46 := rfl
@[simp] theorem c46_own : c46.own = false := rfl
theorem c46_inj : ∀ u_ v_ : TReport × (List TFind), ((fun x => (fun (r : TReport) (l : List TFind) => [encTReport r, encLTFind l]) x.1 x.2) u_).map nz = ((fun x => (fun (r : TReport) (l : List TFind) => [encTReport r, encLTFind l]) x.1 x.2) v_).map nz → u_ = v_ := by
  intro u_ v_ h
  obtain ⟨⟨r_Id, r_Kind, r_Colours, r_SizeLow, r_SizeHigh, r_Places, ⟨r_Span_From, r_Span_Until⟩⟩, l⟩ := u_
  obtain ⟨⟨r_Id', r_Kind', r_Colours', r_SizeLow', r_SizeHigh', r_Places', ⟨r_Span_From', r_Span_Until'⟩⟩, l'⟩ := v_
  simp [nz_lit, nz1_lit, nz_agg, nz_sl, nz1_sl, encLI, encLTFind, encTReport, encTSpan] at h
  first | (simp [h]; done) | (obtain ⟨⟩ := h; simp_all; done) | simp_all
@[simp] theorem c46_fn (r_Id : Int) (r_Kind : Int) (r_Colours : List Int) (r_SizeLow : Int) (r_SizeHigh : Int) (r_Places : List Int) (r_Span_From : Int) (r_Span_Until : Int) (l : List TFind) : c46.fn [.agg [.lit (.int .i64 r_Id), .lit (.int .i64 r_Kind), .sl false 1 (.lit (.int .i64 0)) (ML dI r_Colours), .lit (.int .i64 r_SizeLow), .lit (.int .i64 r_SizeHigh), .sl false 1 (.lit (.int .i64 0)) (ML dI r_Places), .lit (.int .i64 r_Span_From), .lit (.int .i64 r_Span_Until)], .sl false 8 yTFind (ML encTFind l)] [] = some ((fun (r : TReport) (l : List TFind) => smR r ∧ l.length ≤ 1073741823) ⟨r_Id, r_Kind, r_Colours, r_SizeLow, r_SizeHigh, r_Places, ⟨r_Span_From, r_Span_Until⟩⟩ l, (fun (r : TReport) (l : List TFind) => (dI (mBestOf r l) : D)) ⟨r_Id, r_Kind, r_Colours, r_SizeLow, r_SizeHigh, r_Places, ⟨r_Span_From, r_Span_Until⟩⟩ l, (fun (r : TReport) (l : List TFind) => []) ⟨r_Id, r_Kind, r_Colours, r_SizeLow, r_SizeHigh, r_Places, ⟨r_Span_From, r_Span_Until⟩⟩ l) :=
  mkCon_fn (fun x y h _ => c46_inj x y h) ((⟨r_Id, r_Kind, r_Colours, r_SizeLow, r_SizeHigh, r_Places, ⟨r_Span_From, r_Span_Until⟩⟩, l) : TReport × (List TFind)) (by simp [nz, nz1, ML_nil, encLI, encLTFind, encTReport, encTSpan]) rfl
@[simp] theorem c46_fn1 (r_Id : Int) (r_Kind : Int) (r_Colours : List Int) (r_SizeLow : Int) (r_SizeHigh : Int) (r_Places : List Int) (r_Span_From : Int) (r_Span_Until : Int) (s_l : Nat) (z_l : D) : c46.fn [.agg [.lit (.int .i64 r_Id), .lit (.int .i64 r_Kind), .sl false 1 (.lit (.int .i64 0)) (ML dI r_Colours), .lit (.int .i64 r_SizeLow), .lit (.int .i64 r_SizeHigh), .sl false 1 (.lit (.int .i64 0)) (ML dI r_Places), .lit (.int .i64 r_Span_From), .lit (.int .i64 r_Span_Until)], .sl false s_l z_l []] [] = some ((fun (r : TReport) (l : List TFind) => smR r ∧ l.length ≤ 1073741823) ⟨r_Id, r_Kind, r_Colours, r_SizeLow, r_SizeHigh, r_Places, ⟨r_Span_From, r_Span_Until⟩⟩ [], (fun (r : TReport) (l : List TFind) => (dI (mBestOf r l) : D)) ⟨r_Id, r_Kind, r_Colours, r_SizeLow, r_SizeHigh, r_Places, ⟨r_Span_From, r_Span_Until⟩⟩ [], (fun (r : TReport) (l : List TFind) => []) ⟨r_Id, r_Kind, r_Colours, r_SizeLow, r_SizeHigh, r_Places, ⟨r_Span_From, r_Span_Until⟩⟩ []) :=
  mkCon_fn (fun x y h _ => c46_inj x y h) ((⟨r_Id, r_Kind, r_Colours, r_SizeLow, r_SizeHigh, r_Places, ⟨r_Span_From, r_Span_Until⟩⟩, []) : TReport × (List TFind)) (by simp [nz, nz1, ML_nil, encLI, encLTFind, encTReport, encTSpan]) rfl
theorem c46_pc (r : TReport) (l : List TFind) (hpre : smR r ∧ l.length ≤ 1073741823) : PCo Try.prog 46 [encTReport r, encLTFind l] (Tab.of []) (dI (mBestOf r l)) (Tab.of []) := by
  refine pco_of_run [] (E := ⟨[c111, c112], []⟩) (m := false) (base := 0) (Env.ok_cons c111_ok (Env.ok_cons c112_ok Env.ok_nil)) G_ok mix 300 6 Try.func46 (by kernel_rfl) rfl (by kernel_rfl) (by kernel_rfl) rfl ?_
  simp [Try.f46]
  obtain ⟨hr, hl⟩ := hpre
  simp at hr
  refine loop_inv (fun p : Nat => p ≤ l.length ∧ (p = 0 ∨ mAreFinds l = true)) (fun p => [(1, encLTFind l), (2, .ptr (0, 1) 0), (5, dI (mBest r l p)), (6, dI (mMost r l p)), (7, dI p)]) (fun p => [((0, 1), .box (encTReport r))]) 2 (fun p => l.length - p) 0 400 (by simp) (by simp) (by simp [mBest, mMost]) ?_
  intro p ⟨hp, hv⟩
  cases h : mAreFinds l with
  | false =>
    have hm : mBestOf r l = 0 := by rw [mBestOf, h]; rfl
    have hp0 : p = 0 := by rcases hv with hv | hv; exact hv; rw [h] at hv; cases hv
    subst hp0
    simp [h, hm, mBest]
    exact fun _ => by omega
  | true =>
    have hm : mBestOf r l = mBest r l l.length := by rw [mBestOf, h]; rfl
    simp [h]
    refine ⟨fun _ => by omega, fun hlt => ?_, fun hge => ?_⟩
    · have hb := best_step r l hlt
      refine ⟨⟨hlt, hr⟩, fun hw => ?_, fun hw => ?_⟩
      · have := hb.1 hw
        exact ⟨hlt, by omega, Again.mk (p + 1) (by omega) (by simp [this]) (by first | omega | (simp; omega))⟩
      · have := hb.2 (by omega)
        exact ⟨by omega, Again.mk (p + 1) (by omega) (by simp [this]) (by first | omega | (simp; omega))⟩
    · have : p = l.length := by omega
      rw [hm, this]
theorem c46_ok : c46.ok Try.prog := mkCon_ok fun ⟨r, l⟩ hpre => c46_pc r l hpre

end Go.Proofs.Ytnkggfhgmdbfpaa
