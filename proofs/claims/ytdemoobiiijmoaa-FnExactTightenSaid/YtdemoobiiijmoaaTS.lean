/- What a law is given, as typed data. -/
import Derived.Test.YtdemoobiiijmoaaTA
namespace Go.Proofs.Ytdemoobiiijmoaa
open Go Go.Eng
set_option linter.unusedSimpArgs false
set_option linter.unusedVariables false
theorem sh2 {n : Nat} {d : D} (h : Sh G (n + 1) 2 d) : ∃ x : Int, d = dI x ∧ inR .i64 x := h
theorem sh3 {n : Nat} {d : D} (h : Sh G (n + 1) 3 d) : ∃ x : Int, d = dI x ∧ inR .i64 x := h
theorem sh4 {n : Nat} {d : D} (h : Sh G (n + 1) 4 d) : ∃ x : Bool, d = dB x ∧ True := by
  obtain ⟨b, rfl⟩ := h
  exact ⟨b, rfl, trivial⟩
theorem sh5 {n : Nat} {d : D} (h : Sh G (n + 1) 5 d) : ∃ x : Int, d = dU x ∧ inR .u8 x := h
theorem sh9 {n : Nat} {d : D} (h : Sh G (n + 1) 9 d) : ∃ x : ByteArray, d = dS x ∧ x.size ≤ maxLen := h
theorem sh12 {n : Nat} {d : D} (h : Sh G (n + 1) 12 d) : ∃ x : Int, d = (fun n => .lit (.int .u64 n)) x ∧ inR .u64 x := h
theorem sh21 {n : Nat} {d : D} (h : Sh G (n + 1) 21 d) : ∃ x : Int, d = (fun n => .lit (.int .i32 n)) x ∧ inR .i32 x := h
theorem sh53 {n : Nat} {d : D} (h : Sh G (n + 2) 53 d) : ∃ x : TSlot, d = encTSlot x ∧ wfTSlot x := by
  obtain ⟨cs, rfl, _, d0, r0, h0, _, rfl, _, d1, r1, h1, _, rfl, _, d2, r2, h2, _, rfl, rfl⟩ := h
  obtain ⟨x0, rfl, w0⟩ := sh3 (n := n + 0) h0
  obtain ⟨x1, rfl, w1⟩ := sh3 (n := n + 0) h1
  obtain ⟨x2, rfl, w2⟩ := sh3 (n := n + 0) h2
  exact ⟨⟨x0, x1, x2⟩, rfl, w0, w1, w2⟩
theorem sh22 {n : Nat} {d : D} (h : Sh G (n + 3) 22 d) : ∃ x : List TSlot, d = encLTSlot x ∧ wfLTSlot x := by
  obtain ⟨xs, rfl, hm, hx⟩ := h
  obtain ⟨l, rfl, hl⟩ := Sh_list (Γ := G) (n := n + 2) (e := 53) (fun d hd => sh53 (n := n + 0) hd) hx
  exact ⟨l, rfl, by simpa using hm, hl⟩
theorem sh51 {n : Nat} {d : D} (h : Sh G (n + 2) 51 d) : ∃ x : TSlot, d = encTSlot x ∧ wfTSlot x := by
  obtain ⟨cs, rfl, _, d0, r0, h0, _, rfl, _, d1, r1, h1, _, rfl, _, d2, r2, h2, _, rfl, rfl⟩ := h
  obtain ⟨x0, rfl, w0⟩ := sh3 (n := n + 0) h0
  obtain ⟨x1, rfl, w1⟩ := sh3 (n := n + 0) h1
  obtain ⟨x2, rfl, w2⟩ := sh3 (n := n + 0) h2
  exact ⟨⟨x0, x1, x2⟩, rfl, w0, w1, w2⟩
theorem sh25 {n : Nat} {d : D} (h : Sh G (n + 3) 25 d) : ∃ x : List TSlot, d = encLTSlot x ∧ wfLTSlot x := by
  obtain ⟨xs, rfl, hm, hx⟩ := h
  obtain ⟨l, rfl, hl⟩ := Sh_list (Γ := G) (n := n + 2) (e := 51) (fun d hd => sh51 (n := n + 0) hd) hx
  exact ⟨l, rfl, by simpa using hm, hl⟩
theorem sh29 {n : Nat} {d : D} (h : Sh G (n + 2) 29 d) : ∃ x : TThing, d = encTThing x ∧ wfTThing x := by
  obtain ⟨cs, rfl, _, d0, r0, h0, _, rfl, _, d1, r1, h1, _, rfl, _, d2, r2, h2, _, rfl, _, d3, r3, h3, _, rfl, _, d4, r4, h4, _, rfl, rfl⟩ := h
  obtain ⟨x0, rfl, w0⟩ := sh3 (n := n + 0) h0
  obtain ⟨x1, rfl, w1⟩ := sh3 (n := n + 0) h1
  obtain ⟨x2, rfl, w2⟩ := sh3 (n := n + 0) h2
  obtain ⟨x3, rfl, w3⟩ := sh3 (n := n + 0) h3
  obtain ⟨x4, rfl, w4⟩ := sh3 (n := n + 0) h4
  exact ⟨⟨x0, x1, x2, x3, x4⟩, rfl, w0, w1, w2, w3, w4⟩
theorem sh30 {n : Nat} {d : D} (h : Sh G (n + 2) 30 d) : ∃ x : TThing, d = encTThing x ∧ wfTThing x := by
  obtain ⟨cs, rfl, _, d0, r0, h0, _, rfl, _, d1, r1, h1, _, rfl, _, d2, r2, h2, _, rfl, _, d3, r3, h3, _, rfl, _, d4, r4, h4, _, rfl, rfl⟩ := h
  obtain ⟨x0, rfl, w0⟩ := sh3 (n := n + 0) h0
  obtain ⟨x1, rfl, w1⟩ := sh3 (n := n + 0) h1
  obtain ⟨x2, rfl, w2⟩ := sh3 (n := n + 0) h2
  obtain ⟨x3, rfl, w3⟩ := sh3 (n := n + 0) h3
  obtain ⟨x4, rfl, w4⟩ := sh3 (n := n + 0) h4
  exact ⟨⟨x0, x1, x2, x3, x4⟩, rfl, w0, w1, w2, w3, w4⟩
theorem sh33 {n : Nat} {d : D} (h : Sh G (n + 2) 33 d) : ∃ x : TThing, d = encTThing x ∧ wfTThing x := by
  obtain ⟨cs, rfl, _, d0, r0, h0, _, rfl, _, d1, r1, h1, _, rfl, _, d2, r2, h2, _, rfl, _, d3, r3, h3, _, rfl, _, d4, r4, h4, _, rfl, rfl⟩ := h
  obtain ⟨x0, rfl, w0⟩ := sh3 (n := n + 0) h0
  obtain ⟨x1, rfl, w1⟩ := sh3 (n := n + 0) h1
  obtain ⟨x2, rfl, w2⟩ := sh3 (n := n + 0) h2
  obtain ⟨x3, rfl, w3⟩ := sh3 (n := n + 0) h3
  obtain ⟨x4, rfl, w4⟩ := sh3 (n := n + 0) h4
  exact ⟨⟨x0, x1, x2, x3, x4⟩, rfl, w0, w1, w2, w3, w4⟩
theorem sh36 {n : Nat} {d : D} (h : Sh G (n + 3) 36 d) : ∃ x : List TThing, d = encLTThing x ∧ wfLTThing x := by
  obtain ⟨xs, rfl, hm, hx⟩ := h
  obtain ⟨l, rfl, hl⟩ := Sh_list (Γ := G) (n := n + 2) (e := 30) (fun d hd => sh30 (n := n + 0) hd) hx
  exact ⟨l, rfl, by simpa using hm, hl⟩
theorem sh38 {n : Nat} {d : D} (h : Sh G (n + 2) 38 d) : ∃ x : List Int, d = encLI x ∧ wfLI x := by
  obtain ⟨xs, rfl, hm, hx⟩ := h
  obtain ⟨l, rfl, hl⟩ := Sh_list (Γ := G) (n := n + 1) (e := 3) (fun d hd => sh3 (n := n + 0) hd) hx
  exact ⟨l, rfl, by simpa using hm, hl⟩
theorem sh41 {n : Nat} {d : D} (h : Sh G (n + 3) 41 d) : ∃ x : List TThing, d = encLTThing x ∧ wfLTThing x := by
  obtain ⟨xs, rfl, hm, hx⟩ := h
  obtain ⟨l, rfl, hl⟩ := Sh_list (Γ := G) (n := n + 2) (e := 33) (fun d hd => sh33 (n := n + 0) hd) hx
  exact ⟨l, rfl, by simpa using hm, hl⟩
theorem sh50 {n : Nat} {d : D} (h : Sh G (n + 2) 50 d) : ∃ x : TSlot, d = encTSlot x ∧ wfTSlot x := by
  obtain ⟨cs, rfl, _, d0, r0, h0, _, rfl, _, d1, r1, h1, _, rfl, _, d2, r2, h2, _, rfl, rfl⟩ := h
  obtain ⟨x0, rfl, w0⟩ := sh3 (n := n + 0) h0
  obtain ⟨x1, rfl, w1⟩ := sh3 (n := n + 0) h1
  obtain ⟨x2, rfl, w2⟩ := sh3 (n := n + 0) h2
  exact ⟨⟨x0, x1, x2⟩, rfl, w0, w1, w2⟩
theorem sh72 {n : Nat} {d : D} (h : Sh G (n + 2) 72 d) : ∃ x : TFreeSlot, d = encTFreeSlot x ∧ wfTFreeSlot x := by
  obtain ⟨cs, rfl, _, d0, r0, h0, _, rfl, _, d1, r1, h1, _, rfl, rfl⟩ := h
  obtain ⟨x0, rfl, w0⟩ := sh3 (n := n + 0) h0
  obtain ⟨x1, rfl, w1⟩ := sh3 (n := n + 0) h1
  exact ⟨⟨x0, x1⟩, rfl, w0, w1⟩
theorem sh67 {n : Nat} {d : D} (h : Sh G (n + 3) 67 d) : ∃ x : List TFreeSlot, d = encLTFreeSlot x ∧ wfLTFreeSlot x := by
  obtain ⟨xs, rfl, hm, hx⟩ := h
  obtain ⟨l, rfl, hl⟩ := Sh_list (Γ := G) (n := n + 2) (e := 72) (fun d hd => sh72 (n := n + 0) hd) hx
  exact ⟨l, rfl, by simpa using hm, hl⟩
theorem sh68 {n : Nat} {d : D} (h : Sh G (n + 3) 68 d) : ∃ x : List TFreeSlot, d = encLTFreeSlot x ∧ wfLTFreeSlot x := by
  obtain ⟨xs, rfl, hm, hx⟩ := h
  obtain ⟨l, rfl, hl⟩ := Sh_list (Γ := G) (n := n + 2) (e := 72) (fun d hd => sh72 (n := n + 0) hd) hx
  exact ⟨l, rfl, by simpa using hm, hl⟩
theorem sh71 {n : Nat} {d : D} (h : Sh G (n + 2) 71 d) : ∃ x : TFreeSlot, d = encTFreeSlot x ∧ wfTFreeSlot x := by
  obtain ⟨cs, rfl, _, d0, r0, h0, _, rfl, _, d1, r1, h1, _, rfl, rfl⟩ := h
  obtain ⟨x0, rfl, w0⟩ := sh3 (n := n + 0) h0
  obtain ⟨x1, rfl, w1⟩ := sh3 (n := n + 0) h1
  exact ⟨⟨x0, x1⟩, rfl, w0, w1⟩
theorem sh85 {n : Nat} {d : D} (h : Sh G (n + 1) 85 d) : ∃ x : Int, d = dI x ∧ inR .i64 x := h
theorem sh91 {n : Nat} {d : D} (h : Sh G (n + 1) 91 d) : ∃ x : Int, d = (fun n => .lit (.int .u64 n)) x ∧ inR .u64 x := h
theorem sh103 {n : Nat} {d : D} (h : Sh G (n + 1) 103 d) : ∃ x : Int, d = dI x ∧ inR .i64 x := h
theorem sh112 {n : Nat} {d : D} (h : Sh G (n + 1) 112 d) : ∃ x : Int, d = (fun n => .lit (.int .u32 n)) x ∧ inR .u32 x := h
theorem sh114 {n : Nat} {d : D} (h : Sh G (n + 1) 114 d) : ∃ x : Int, d = (fun n => .lit (.int .u64 n)) x ∧ inR .u64 x := h
theorem sh117 {n : Nat} {d : D} (h : Sh G (n + 1) 117 d) : ∃ x : Int, d = (fun n => .lit (.int .u64 n)) x ∧ inR .u64 x := h
end Go.Proofs.Ytdemoobiiijmoaa
