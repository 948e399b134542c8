/- Contracts of the functions that the laws run. -/
import Derived.Test.Ytdbhfkbfajljpaach01
import Derived.Test.YtdbhfkbfajljpaaShelf
import Derived.Test.YtdbhfkbfajljpaaEngB
import Derived.Test.YtdbhfkbfajljpaaEngB
namespace Go.Proofs.Ytdbhfkbfajljpaa
open Go Go.Eng
set_option linter.unusedSimpArgs false
set_option linter.unusedVariables false
set_option maxRecDepth 10000
set_option maxHeartbeats 1000000
def mSort (l : List Int) : List Int := l.mergeSort fun x y => decide (x ≤ y)
theorem mSort_len (l : List Int) : (mSort l).length = l.length := by simp [mSort]
theorem mSort_perm (l : List Int) : (mSort l).Perm l := List.mergeSort_perm _ _
theorem mSort_asc (l : List Int) : (mSort l).Pairwise (· ≤ ·) := by
  have := List.pairwise_mergeSort (le := fun x y : Int => decide (x ≤ y)) (by intro a b c; simp; omega) (by intro a b; simp; omega) l
  exact this.imp (by simp)
/-- slices.Sort[[]in -/
noncomputable def c61 : Con := mkCon 61 true (α := (List Int)) (fun x => (fun (l : List Int) => ([.own (0, 0) 1 0 l.length] : List D)) x) (fun x => (fun (l : List Int) => ([((0, 0), .arr false 1 (dI 0) (ML dI l))] : List (Nm × OO))) x) (fun x => (fun (l : List Int) => l.length < 4611686018427387904) x) (fun x => (fun (l : List Int) => (.tup [] : D)) x) (fun x => (fun (l : List Int) => ([((0, 0), .arr false 1 (dI 0) (ML dI (mSort l)))] : List (Nm × OO))) x)
@[simp] theorem c61_f : c61.f = 61 := rfl
@[simp] theorem c61_own : c61.own = true := rfl
theorem c61_inj : ∀ u_ v_ : (List Int), ((fun x => (fun (l : List Int) => ([.own (0, 0) 1 0 l.length] : List D)) x) u_).map nz = ((fun x => (fun (l : List Int) => ([.own (0, 0) 1 0 l.length] : List D)) x) v_).map nz → (fun x => (fun (l : List Int) => ([((0, 0), .arr false 1 (dI 0) (ML dI l))] : List (Nm × OO))) x) u_ = (fun x => (fun (l : List Int) => ([((0, 0), .arr false 1 (dI 0) (ML dI l))] : List (Nm × OO))) x) v_ → u_ = v_ := by
  intro u_ v_ h h2_
  obtain l := u_
  obtain l' := v_
  simp [nz_lit, nz1_lit, nz_agg, nz_sl, nz1_sl, nz_sx, nz_el, nz1_el, nz_own, nz1_own, nz_ptr, nz_fn, nz_iface] at h h2_
  first | (simp [h, h2_]; done) | (obtain ⟨h3_, h4_⟩ := List.append_inj h2_ h.1; simp_all; done) | simp_all | grind
@[simp] theorem c61_fn (l : List Int) : c61.fn ([.own (0, 0) 1 0 l.length]) ([((0, 0), .arr false 1 (dI 0) (ML dI l))]) = some (l.length < 4611686018427387904, .tup [], [((0, 0), .arr false 1 (dI 0) (ML dI (mSort l)))]) :=
  mkCon_fn c61_inj (l : (List Int)) rfl rfl
theorem c61_pc (l : List Int) (hpre : l.length < 4611686018427387904) : PCo Try.prog 61 ([.own (0, 0) 1 0 l.length]) (Tab.of ([((0, 0), .arr false 1 (dI 0) (ML dI l))])) (.tup []) (Tab.of ([((0, 0), .arr false 1 (dI 0) (ML dI (mSort l)))])) := by
  refine pco_sort (enters_of_func Try.func61 (by kernel_rfl) (by kernel_rfl)) (mSort_len l) (fun h a cap w => ?_) (fun blk off cap w hH hb => ?_)
  · subst h; exact Try.slices_Sort_int_none a cap w
  · exact Try.slices_Sort_int blk off cap l w hH hb hpre
theorem c61_ok : c61.ok Try.prog := mkCon_ok fun l hpre => c61_pc l hpre

end Go.Proofs.Ytdbhfkbfajljpaa
