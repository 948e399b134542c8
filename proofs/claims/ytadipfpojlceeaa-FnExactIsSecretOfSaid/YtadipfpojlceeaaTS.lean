/- What a law is given, as typed data. -/
import Derived.Test.YtadipfpojlceeaaTA
namespace Go.Proofs.Ytadipfpojlceeaa
open Go Go.Eng
set_option linter.unusedSimpArgs false
set_option linter.unusedVariables false
theorem sh2 {n : Nat} {d : D} (h : Sh G (n + 1) 2 d) : ∃ x : Int, d = dI x ∧ inR .i64 x := h
theorem sh3 {n : Nat} {d : D} (h : Sh G (n + 1) 3 d) : ∃ x : Int, d = dI x ∧ inR .i64 x := h
theorem sh4 {n : Nat} {d : D} (h : Sh G (n + 1) 4 d) : ∃ x : Bool, d = dB x ∧ True := by
  obtain ⟨b, rfl⟩ := h
  exact ⟨b, rfl, trivial⟩
theorem sh5 {n : Nat} {d : D} (h : Sh G (n + 1) 5 d) : ∃ x : Int, d = dU x ∧ inR .u8 x := h
theorem sh9 {n : Nat} {d : D} (h : Sh G (n + 1) 9 d) : ∃ x : ByteArray, d = dS x ∧ x.size ≤ maxLen := h
theorem sh12 {n : Nat} {d : D} (h : Sh G (n + 1) 12 d) : ∃ x : Int, d = (fun n => .lit (.int .u64 n)) x ∧ inR .u64 x := h
theorem sh21 {n : Nat} {d : D} (h : Sh G (n + 1) 21 d) : ∃ x : Int, d = (fun n => .lit (.int .i32 n)) x ∧ inR .i32 x := h
theorem sh22 {n : Nat} {d : D} (h : Sh G (n + 2) 22 d) : ∃ x : TThing, d = encTThing x ∧ wfTThing x := by
  obtain ⟨cs, rfl, _, d0, r0, h0, _, rfl, _, d1, r1, h1, _, rfl, _, d2, r2, h2, _, rfl, _, d3, r3, h3, _, rfl, _, d4, r4, h4, _, rfl, rfl⟩ := h
  obtain ⟨x0, rfl, w0⟩ := sh3 (n := n + 0) h0
  obtain ⟨x1, rfl, w1⟩ := sh3 (n := n + 0) h1
  obtain ⟨x2, rfl, w2⟩ := sh3 (n := n + 0) h2
  obtain ⟨x3, rfl, w3⟩ := sh3 (n := n + 0) h3
  obtain ⟨x4, rfl, w4⟩ := sh3 (n := n + 0) h4
  exact ⟨⟨x0, x1, x2, x3, x4⟩, rfl, w0, w1, w2, w3, w4⟩
theorem sh23 {n : Nat} {d : D} (h : Sh G (n + 2) 23 d) : ∃ x : TThing, d = encTThing x ∧ wfTThing x := by
  obtain ⟨cs, rfl, _, d0, r0, h0, _, rfl, _, d1, r1, h1, _, rfl, _, d2, r2, h2, _, rfl, _, d3, r3, h3, _, rfl, _, d4, r4, h4, _, rfl, rfl⟩ := h
  obtain ⟨x0, rfl, w0⟩ := sh3 (n := n + 0) h0
  obtain ⟨x1, rfl, w1⟩ := sh3 (n := n + 0) h1
  obtain ⟨x2, rfl, w2⟩ := sh3 (n := n + 0) h2
  obtain ⟨x3, rfl, w3⟩ := sh3 (n := n + 0) h3
  obtain ⟨x4, rfl, w4⟩ := sh3 (n := n + 0) h4
  exact ⟨⟨x0, x1, x2, x3, x4⟩, rfl, w0, w1, w2, w3, w4⟩
theorem sh25 {n : Nat} {d : D} (h : Sh G (n + 2) 25 d) : ∃ x : TThing, d = encTThing x ∧ wfTThing x := by
  obtain ⟨cs, rfl, _, d0, r0, h0, _, rfl, _, d1, r1, h1, _, rfl, _, d2, r2, h2, _, rfl, _, d3, r3, h3, _, rfl, _, d4, r4, h4, _, rfl, rfl⟩ := h
  obtain ⟨x0, rfl, w0⟩ := sh3 (n := n + 0) h0
  obtain ⟨x1, rfl, w1⟩ := sh3 (n := n + 0) h1
  obtain ⟨x2, rfl, w2⟩ := sh3 (n := n + 0) h2
  obtain ⟨x3, rfl, w3⟩ := sh3 (n := n + 0) h3
  obtain ⟨x4, rfl, w4⟩ := sh3 (n := n + 0) h4
  exact ⟨⟨x0, x1, x2, x3, x4⟩, rfl, w0, w1, w2, w3, w4⟩
theorem sh28 {n : Nat} {d : D} (h : Sh G (n + 2) 28 d) : ∃ x : List Int, d = encLI x ∧ wfLI x := by
  obtain ⟨xs, rfl, hm, hx⟩ := h
  obtain ⟨l, rfl, hl⟩ := Sh_list (Γ := G) (n := n + 1) (e := 3) (fun d hd => sh3 (n := n + 0) hd) hx
  exact ⟨l, rfl, by simpa using hm, hl⟩
theorem sh32 {n : Nat} {d : D} (h : Sh G (n + 3) 32 d) : ∃ x : TParcel, d = encTParcel x ∧ wfTParcel x := by
  obtain ⟨cs, rfl, _, d0, r0, h0, _, rfl, _, d1, r1, h1, _, rfl, _, d2, r2, h2, _, rfl, _, d3, r3, h3, _, rfl, rfl⟩ := h
  obtain ⟨x0, rfl, w0⟩ := sh3 (n := n + 1) h0
  obtain ⟨x1, rfl, w1⟩ := sh3 (n := n + 1) h1
  obtain ⟨x2, rfl, w2⟩ := sh28 (n := n + 0) h2
  obtain ⟨x3, rfl, w3⟩ := sh3 (n := n + 1) h3
  exact ⟨⟨x0, x1, x2, x3⟩, rfl, w0, w1, w2, w3⟩
theorem sh33 {n : Nat} {d : D} (h : Sh G (n + 3) 33 d) : ∃ x : TParcel, d = encTParcel x ∧ wfTParcel x := by
  obtain ⟨cs, rfl, _, d0, r0, h0, _, rfl, _, d1, r1, h1, _, rfl, _, d2, r2, h2, _, rfl, _, d3, r3, h3, _, rfl, rfl⟩ := h
  obtain ⟨x0, rfl, w0⟩ := sh3 (n := n + 1) h0
  obtain ⟨x1, rfl, w1⟩ := sh3 (n := n + 1) h1
  obtain ⟨x2, rfl, w2⟩ := sh28 (n := n + 0) h2
  obtain ⟨x3, rfl, w3⟩ := sh3 (n := n + 1) h3
  exact ⟨⟨x0, x1, x2, x3⟩, rfl, w0, w1, w2, w3⟩
theorem sh36 {n : Nat} {d : D} (h : Sh G (n + 3) 36 d) : ∃ x : TParcel, d = encTParcel x ∧ wfTParcel x := by
  obtain ⟨cs, rfl, _, d0, r0, h0, _, rfl, _, d1, r1, h1, _, rfl, _, d2, r2, h2, _, rfl, _, d3, r3, h3, _, rfl, rfl⟩ := h
  obtain ⟨x0, rfl, w0⟩ := sh3 (n := n + 1) h0
  obtain ⟨x1, rfl, w1⟩ := sh3 (n := n + 1) h1
  obtain ⟨x2, rfl, w2⟩ := sh28 (n := n + 0) h2
  obtain ⟨x3, rfl, w3⟩ := sh3 (n := n + 1) h3
  exact ⟨⟨x0, x1, x2, x3⟩, rfl, w0, w1, w2, w3⟩
theorem sh40 {n : Nat} {d : D} (h : Sh G (n + 3) 40 d) : ∃ x : TFind, d = encTFind x ∧ wfTFind x := by
  obtain ⟨cs, rfl, _, d0, r0, h0, _, rfl, _, d1, r1, h1, _, rfl, _, d2, r2, h2, _, rfl, _, d3, r3, h3, _, rfl, rfl⟩ := h
  obtain ⟨x0, rfl, w0⟩ := sh23 (n := n + 0) h0
  obtain ⟨x1, rfl, w1⟩ := sh3 (n := n + 1) h1
  obtain ⟨x2, rfl, w2⟩ := sh3 (n := n + 1) h2
  obtain ⟨x3, rfl, w3⟩ := sh3 (n := n + 1) h3
  exact ⟨⟨x0, x1, x2, x3⟩, rfl, w0, w1, w2, w3⟩
theorem sh41 {n : Nat} {d : D} (h : Sh G (n + 3) 41 d) : ∃ x : TFind, d = encTFind x ∧ wfTFind x := by
  obtain ⟨cs, rfl, _, d0, r0, h0, _, rfl, _, d1, r1, h1, _, rfl, _, d2, r2, h2, _, rfl, _, d3, r3, h3, _, rfl, rfl⟩ := h
  obtain ⟨x0, rfl, w0⟩ := sh23 (n := n + 0) h0
  obtain ⟨x1, rfl, w1⟩ := sh3 (n := n + 1) h1
  obtain ⟨x2, rfl, w2⟩ := sh3 (n := n + 1) h2
  obtain ⟨x3, rfl, w3⟩ := sh3 (n := n + 1) h3
  exact ⟨⟨x0, x1, x2, x3⟩, rfl, w0, w1, w2, w3⟩
theorem sh43 {n : Nat} {d : D} (h : Sh G (n + 3) 43 d) : ∃ x : TFind, d = encTFind x ∧ wfTFind x := by
  obtain ⟨cs, rfl, _, d0, r0, h0, _, rfl, _, d1, r1, h1, _, rfl, _, d2, r2, h2, _, rfl, _, d3, r3, h3, _, rfl, rfl⟩ := h
  obtain ⟨x0, rfl, w0⟩ := sh25 (n := n + 0) h0
  obtain ⟨x1, rfl, w1⟩ := sh3 (n := n + 1) h1
  obtain ⟨x2, rfl, w2⟩ := sh3 (n := n + 1) h2
  obtain ⟨x3, rfl, w3⟩ := sh3 (n := n + 1) h3
  exact ⟨⟨x0, x1, x2, x3⟩, rfl, w0, w1, w2, w3⟩
theorem sh44 {n : Nat} {d : D} (h : Sh G (n + 3) 44 d) : ∃ x : TFind, d = encTFind x ∧ wfTFind x := by
  obtain ⟨cs, rfl, _, d0, r0, h0, _, rfl, _, d1, r1, h1, _, rfl, _, d2, r2, h2, _, rfl, _, d3, r3, h3, _, rfl, rfl⟩ := h
  obtain ⟨x0, rfl, w0⟩ := sh25 (n := n + 0) h0
  obtain ⟨x1, rfl, w1⟩ := sh3 (n := n + 1) h1
  obtain ⟨x2, rfl, w2⟩ := sh3 (n := n + 1) h2
  obtain ⟨x3, rfl, w3⟩ := sh3 (n := n + 1) h3
  exact ⟨⟨x0, x1, x2, x3⟩, rfl, w0, w1, w2, w3⟩
theorem sh139 {n : Nat} {d : D} (h : Sh G (n + 2) 139 d) : ∃ x : TInner, d = encTInner x ∧ wfTInner x := by
  obtain ⟨cs, rfl, _, d0, r0, h0, _, rfl, _, d1, r1, h1, _, rfl, rfl⟩ := h
  obtain ⟨x0, rfl, w0⟩ := sh3 (n := n + 0) h0
  obtain ⟨x1, rfl, w1⟩ := sh3 (n := n + 0) h1
  exact ⟨⟨x0, x1⟩, rfl, w0, w1⟩
theorem sh47 {n : Nat} {d : D} (h : Sh G (n + 3) 47 d) : ∃ x : List TInner, d = encLTInner x ∧ wfLTInner x := by
  obtain ⟨xs, rfl, hm, hx⟩ := h
  obtain ⟨l, rfl, hl⟩ := Sh_list (Γ := G) (n := n + 2) (e := 139) (fun d hd => sh139 (n := n + 0) hd) hx
  exact ⟨l, rfl, by simpa using hm, hl⟩
theorem sh137 {n : Nat} {d : D} (h : Sh G (n + 2) 137 d) : ∃ x : TInner, d = encTInner x ∧ wfTInner x := by
  obtain ⟨cs, rfl, _, d0, r0, h0, _, rfl, _, d1, r1, h1, _, rfl, rfl⟩ := h
  obtain ⟨x0, rfl, w0⟩ := sh3 (n := n + 0) h0
  obtain ⟨x1, rfl, w1⟩ := sh3 (n := n + 0) h1
  exact ⟨⟨x0, x1⟩, rfl, w0, w1⟩
theorem sh50 {n : Nat} {d : D} (h : Sh G (n + 3) 50 d) : ∃ x : List TInner, d = encLTInner x ∧ wfLTInner x := by
  obtain ⟨xs, rfl, hm, hx⟩ := h
  obtain ⟨l, rfl, hl⟩ := Sh_list (Γ := G) (n := n + 2) (e := 137) (fun d hd => sh137 (n := n + 0) hd) hx
  exact ⟨l, rfl, by simpa using hm, hl⟩
theorem sh54 {n : Nat} {d : D} (h : Sh G (n + 2) 54 d) : ∃ x : List Bool, d = encLB x ∧ wfLB x := by
  obtain ⟨xs, rfl, hm, hx⟩ := h
  obtain ⟨l, rfl, hl⟩ := Sh_list (Γ := G) (n := n + 1) (e := 4) (fun d hd => sh4 (n := n + 0) hd) hx
  exact ⟨l, rfl, by simpa using hm, trivial⟩
theorem sh149 {n : Nat} {d : D} (h : Sh G (n + 2) 149 d) : ∃ x : TTicket, d = encTTicket x ∧ wfTTicket x := by
  obtain ⟨cs, rfl, _, d0, r0, h0, _, rfl, _, d1, r1, h1, _, rfl, _, d2, r2, h2, _, rfl, rfl⟩ := h
  obtain ⟨x0, rfl, w0⟩ := sh3 (n := n + 0) h0
  obtain ⟨x1, rfl, w1⟩ := sh3 (n := n + 0) h1
  obtain ⟨x2, rfl, w2⟩ := sh3 (n := n + 0) h2
  exact ⟨⟨x0, x1, x2⟩, rfl, w0, w1, w2⟩
theorem sh64 {n : Nat} {d : D} (h : Sh G (n + 3) 64 d) : ∃ x : List TTicket, d = encLTTicket x ∧ wfLTTicket x := by
  obtain ⟨xs, rfl, hm, hx⟩ := h
  obtain ⟨l, rfl, hl⟩ := Sh_list (Γ := G) (n := n + 2) (e := 149) (fun d hd => sh149 (n := n + 0) hd) hx
  exact ⟨l, rfl, by simpa using hm, hl⟩
theorem sh147 {n : Nat} {d : D} (h : Sh G (n + 2) 147 d) : ∃ x : TTicket, d = encTTicket x ∧ wfTTicket x := by
  obtain ⟨cs, rfl, _, d0, r0, h0, _, rfl, _, d1, r1, h1, _, rfl, _, d2, r2, h2, _, rfl, rfl⟩ := h
  obtain ⟨x0, rfl, w0⟩ := sh3 (n := n + 0) h0
  obtain ⟨x1, rfl, w1⟩ := sh3 (n := n + 0) h1
  obtain ⟨x2, rfl, w2⟩ := sh3 (n := n + 0) h2
  exact ⟨⟨x0, x1, x2⟩, rfl, w0, w1, w2⟩
theorem sh67 {n : Nat} {d : D} (h : Sh G (n + 3) 67 d) : ∃ x : List TTicket, d = encLTTicket x ∧ wfLTTicket x := by
  obtain ⟨xs, rfl, hm, hx⟩ := h
  obtain ⟨l, rfl, hl⟩ := Sh_list (Γ := G) (n := n + 2) (e := 147) (fun d hd => sh147 (n := n + 0) hd) hx
  exact ⟨l, rfl, by simpa using hm, hl⟩
theorem sh163 {n : Nat} {d : D} (h : Sh G (n + 2) 163 d) : ∃ x : TEntry, d = encTEntry x ∧ wfTEntry x := by
  obtain ⟨cs, rfl, _, d0, r0, h0, _, rfl, _, d1, r1, h1, _, rfl, _, d2, r2, h2, _, rfl, _, d3, r3, h3, _, rfl, rfl⟩ := h
  obtain ⟨x0, rfl, w0⟩ := sh3 (n := n + 0) h0
  obtain ⟨x1, rfl, w1⟩ := sh3 (n := n + 0) h1
  obtain ⟨x2, rfl, w2⟩ := sh3 (n := n + 0) h2
  obtain ⟨x3, rfl, w3⟩ := sh3 (n := n + 0) h3
  exact ⟨⟨x0, x1, x2, x3⟩, rfl, w0, w1, w2, w3⟩
theorem sh73 {n : Nat} {d : D} (h : Sh G (n + 3) 73 d) : ∃ x : List TEntry, d = encLTEntry x ∧ wfLTEntry x := by
  obtain ⟨xs, rfl, hm, hx⟩ := h
  obtain ⟨l, rfl, hl⟩ := Sh_list (Γ := G) (n := n + 2) (e := 163) (fun d hd => sh163 (n := n + 0) hd) hx
  exact ⟨l, rfl, by simpa using hm, hl⟩
theorem sh161 {n : Nat} {d : D} (h : Sh G (n + 2) 161 d) : ∃ x : TEntry, d = encTEntry x ∧ wfTEntry x := by
  obtain ⟨cs, rfl, _, d0, r0, h0, _, rfl, _, d1, r1, h1, _, rfl, _, d2, r2, h2, _, rfl, _, d3, r3, h3, _, rfl, rfl⟩ := h
  obtain ⟨x0, rfl, w0⟩ := sh3 (n := n + 0) h0
  obtain ⟨x1, rfl, w1⟩ := sh3 (n := n + 0) h1
  obtain ⟨x2, rfl, w2⟩ := sh3 (n := n + 0) h2
  obtain ⟨x3, rfl, w3⟩ := sh3 (n := n + 0) h3
  exact ⟨⟨x0, x1, x2, x3⟩, rfl, w0, w1, w2, w3⟩
theorem sh76 {n : Nat} {d : D} (h : Sh G (n + 3) 76 d) : ∃ x : List TEntry, d = encLTEntry x ∧ wfLTEntry x := by
  obtain ⟨xs, rfl, hm, hx⟩ := h
  obtain ⟨l, rfl, hl⟩ := Sh_list (Γ := G) (n := n + 2) (e := 161) (fun d hd => sh161 (n := n + 0) hd) hx
  exact ⟨l, rfl, by simpa using hm, hl⟩
theorem sh172 {n : Nat} {d : D} (h : Sh G (n + 2) 172 d) : ∃ x : TTask, d = encTTask x ∧ wfTTask x := by
  obtain ⟨cs, rfl, _, d0, r0, h0, _, rfl, _, d1, r1, h1, _, rfl, _, d2, r2, h2, _, rfl, rfl⟩ := h
  obtain ⟨x0, rfl, w0⟩ := sh3 (n := n + 0) h0
  obtain ⟨x1, rfl, w1⟩ := sh3 (n := n + 0) h1
  obtain ⟨x2, rfl, w2⟩ := sh3 (n := n + 0) h2
  exact ⟨⟨x0, x1, x2⟩, rfl, w0, w1, w2⟩
theorem sh82 {n : Nat} {d : D} (h : Sh G (n + 3) 82 d) : ∃ x : List TTask, d = encLTTask x ∧ wfLTTask x := by
  obtain ⟨xs, rfl, hm, hx⟩ := h
  obtain ⟨l, rfl, hl⟩ := Sh_list (Γ := G) (n := n + 2) (e := 172) (fun d hd => sh172 (n := n + 0) hd) hx
  exact ⟨l, rfl, by simpa using hm, hl⟩
theorem sh170 {n : Nat} {d : D} (h : Sh G (n + 2) 170 d) : ∃ x : TTask, d = encTTask x ∧ wfTTask x := by
  obtain ⟨cs, rfl, _, d0, r0, h0, _, rfl, _, d1, r1, h1, _, rfl, _, d2, r2, h2, _, rfl, rfl⟩ := h
  obtain ⟨x0, rfl, w0⟩ := sh3 (n := n + 0) h0
  obtain ⟨x1, rfl, w1⟩ := sh3 (n := n + 0) h1
  obtain ⟨x2, rfl, w2⟩ := sh3 (n := n + 0) h2
  exact ⟨⟨x0, x1, x2⟩, rfl, w0, w1, w2⟩
theorem sh85 {n : Nat} {d : D} (h : Sh G (n + 3) 85 d) : ∃ x : List TTask, d = encLTTask x ∧ wfLTTask x := by
  obtain ⟨xs, rfl, hm, hx⟩ := h
  obtain ⟨l, rfl, hl⟩ := Sh_list (Γ := G) (n := n + 2) (e := 170) (fun d hd => sh170 (n := n + 0) hd) hx
  exact ⟨l, rfl, by simpa using hm, hl⟩
theorem sh217 {n : Nat} {d : D} (h : Sh G (n + 2) 217 d) : ∃ x : TMark, d = encTMark x ∧ wfTMark x := by
  obtain ⟨cs, rfl, _, d0, r0, h0, _, rfl, _, d1, r1, h1, _, rfl, rfl⟩ := h
  obtain ⟨x0, rfl, w0⟩ := sh3 (n := n + 0) h0
  obtain ⟨x1, rfl, w1⟩ := sh3 (n := n + 0) h1
  exact ⟨⟨x0, x1⟩, rfl, w0, w1⟩
theorem sh89 {n : Nat} {d : D} (h : Sh G (n + 3) 89 d) : ∃ x : List TMark, d = encLTMark x ∧ wfLTMark x := by
  obtain ⟨xs, rfl, hm, hx⟩ := h
  obtain ⟨l, rfl, hl⟩ := Sh_list (Γ := G) (n := n + 2) (e := 217) (fun d hd => sh217 (n := n + 0) hd) hx
  exact ⟨l, rfl, by simpa using hm, hl⟩
theorem sh90 {n : Nat} {d : D} (h : Sh G (n + 4) 90 d) : ∃ x : TSecret, d = encTSecret x ∧ wfTSecret x := by
  obtain ⟨cs, rfl, _, d0, r0, h0, _, rfl, _, d1, r1, h1, _, rfl, _, d2, r2, h2, _, rfl, rfl⟩ := h
  obtain ⟨x0, rfl, w0⟩ := sh3 (n := n + 2) h0
  obtain ⟨x1, rfl, w1⟩ := sh89 (n := n + 0) h1
  obtain ⟨x2, rfl, w2⟩ := sh3 (n := n + 2) h2
  exact ⟨⟨x0, x1, x2⟩, rfl, w0, w1, w2⟩
theorem sh91 {n : Nat} {d : D} (h : Sh G (n + 4) 91 d) : ∃ x : TSecret, d = encTSecret x ∧ wfTSecret x := by
  obtain ⟨cs, rfl, _, d0, r0, h0, _, rfl, _, d1, r1, h1, _, rfl, _, d2, r2, h2, _, rfl, rfl⟩ := h
  obtain ⟨x0, rfl, w0⟩ := sh3 (n := n + 2) h0
  obtain ⟨x1, rfl, w1⟩ := sh89 (n := n + 0) h1
  obtain ⟨x2, rfl, w2⟩ := sh3 (n := n + 2) h2
  exact ⟨⟨x0, x1, x2⟩, rfl, w0, w1, w2⟩
theorem sh215 {n : Nat} {d : D} (h : Sh G (n + 2) 215 d) : ∃ x : TMark, d = encTMark x ∧ wfTMark x := by
  obtain ⟨cs, rfl, _, d0, r0, h0, _, rfl, _, d1, r1, h1, _, rfl, rfl⟩ := h
  obtain ⟨x0, rfl, w0⟩ := sh3 (n := n + 0) h0
  obtain ⟨x1, rfl, w1⟩ := sh3 (n := n + 0) h1
  exact ⟨⟨x0, x1⟩, rfl, w0, w1⟩
theorem sh94 {n : Nat} {d : D} (h : Sh G (n + 3) 94 d) : ∃ x : List TMark, d = encLTMark x ∧ wfLTMark x := by
  obtain ⟨xs, rfl, hm, hx⟩ := h
  obtain ⟨l, rfl, hl⟩ := Sh_list (Γ := G) (n := n + 2) (e := 215) (fun d hd => sh215 (n := n + 0) hd) hx
  exact ⟨l, rfl, by simpa using hm, hl⟩
theorem sh95 {n : Nat} {d : D} (h : Sh G (n + 4) 95 d) : ∃ x : TSecret, d = encTSecret x ∧ wfTSecret x := by
  obtain ⟨cs, rfl, _, d0, r0, h0, _, rfl, _, d1, r1, h1, _, rfl, _, d2, r2, h2, _, rfl, rfl⟩ := h
  obtain ⟨x0, rfl, w0⟩ := sh3 (n := n + 2) h0
  obtain ⟨x1, rfl, w1⟩ := sh94 (n := n + 0) h1
  obtain ⟨x2, rfl, w2⟩ := sh3 (n := n + 2) h2
  exact ⟨⟨x0, x1, x2⟩, rfl, w0, w1, w2⟩
theorem sh96 {n : Nat} {d : D} (h : Sh G (n + 4) 96 d) : ∃ x : TSecret, d = encTSecret x ∧ wfTSecret x := by
  obtain ⟨cs, rfl, _, d0, r0, h0, _, rfl, _, d1, r1, h1, _, rfl, _, d2, r2, h2, _, rfl, rfl⟩ := h
  obtain ⟨x0, rfl, w0⟩ := sh3 (n := n + 2) h0
  obtain ⟨x1, rfl, w1⟩ := sh94 (n := n + 0) h1
  obtain ⟨x2, rfl, w2⟩ := sh3 (n := n + 2) h2
  exact ⟨⟨x0, x1, x2⟩, rfl, w0, w1, w2⟩
theorem sh102 {n : Nat} {d : D} (h : Sh G (n + 4) 102 d) : ∃ x : List TFind, d = encLTFind x ∧ wfLTFind x := by
  obtain ⟨xs, rfl, hm, hx⟩ := h
  obtain ⟨l, rfl, hl⟩ := Sh_list (Γ := G) (n := n + 3) (e := 41) (fun d hd => sh41 (n := n + 0) hd) hx
  exact ⟨l, rfl, by simpa using hm, hl⟩
theorem sh105 {n : Nat} {d : D} (h : Sh G (n + 4) 105 d) : ∃ x : List TFind, d = encLTFind x ∧ wfLTFind x := by
  obtain ⟨xs, rfl, hm, hx⟩ := h
  obtain ⟨l, rfl, hl⟩ := Sh_list (Γ := G) (n := n + 3) (e := 44) (fun d hd => sh44 (n := n + 0) hd) hx
  exact ⟨l, rfl, by simpa using hm, hl⟩
theorem sh190 {n : Nat} {d : D} (h : Sh G (n + 2) 190 d) : ∃ x : TClaim, d = encTClaim x ∧ wfTClaim x := by
  obtain ⟨cs, rfl, _, d0, r0, h0, _, rfl, _, d1, r1, h1, _, rfl, _, d2, r2, h2, _, rfl, _, d3, r3, h3, _, rfl, _, d4, r4, h4, _, rfl, rfl⟩ := h
  obtain ⟨x0, rfl, w0⟩ := sh3 (n := n + 0) h0
  obtain ⟨x1, rfl, w1⟩ := sh3 (n := n + 0) h1
  obtain ⟨x2, rfl, w2⟩ := sh3 (n := n + 0) h2
  obtain ⟨x3, rfl, w3⟩ := sh3 (n := n + 0) h3
  obtain ⟨x4, rfl, w4⟩ := sh3 (n := n + 0) h4
  exact ⟨⟨x0, x1, x2, x3, x4⟩, rfl, w0, w1, w2, w3, w4⟩
theorem sh111 {n : Nat} {d : D} (h : Sh G (n + 3) 111 d) : ∃ x : List TClaim, d = encLTClaim x ∧ wfLTClaim x := by
  obtain ⟨xs, rfl, hm, hx⟩ := h
  obtain ⟨l, rfl, hl⟩ := Sh_list (Γ := G) (n := n + 2) (e := 190) (fun d hd => sh190 (n := n + 0) hd) hx
  exact ⟨l, rfl, by simpa using hm, hl⟩
theorem sh188 {n : Nat} {d : D} (h : Sh G (n + 2) 188 d) : ∃ x : TClaim, d = encTClaim x ∧ wfTClaim x := by
  obtain ⟨cs, rfl, _, d0, r0, h0, _, rfl, _, d1, r1, h1, _, rfl, _, d2, r2, h2, _, rfl, _, d3, r3, h3, _, rfl, _, d4, r4, h4, _, rfl, rfl⟩ := h
  obtain ⟨x0, rfl, w0⟩ := sh3 (n := n + 0) h0
  obtain ⟨x1, rfl, w1⟩ := sh3 (n := n + 0) h1
  obtain ⟨x2, rfl, w2⟩ := sh3 (n := n + 0) h2
  obtain ⟨x3, rfl, w3⟩ := sh3 (n := n + 0) h3
  obtain ⟨x4, rfl, w4⟩ := sh3 (n := n + 0) h4
  exact ⟨⟨x0, x1, x2, x3, x4⟩, rfl, w0, w1, w2, w3, w4⟩
theorem sh114 {n : Nat} {d : D} (h : Sh G (n + 3) 114 d) : ∃ x : List TClaim, d = encLTClaim x ∧ wfLTClaim x := by
  obtain ⟨xs, rfl, hm, hx⟩ := h
  obtain ⟨l, rfl, hl⟩ := Sh_list (Γ := G) (n := n + 2) (e := 188) (fun d hd => sh188 (n := n + 0) hd) hx
  exact ⟨l, rfl, by simpa using hm, hl⟩
theorem sh198 {n : Nat} {d : D} (h : Sh G (n + 2) 198 d) : ∃ x : THit, d = encTHit x ∧ wfTHit x := by
  obtain ⟨cs, rfl, _, d0, r0, h0, _, rfl, _, d1, r1, h1, _, rfl, rfl⟩ := h
  obtain ⟨x0, rfl, w0⟩ := sh3 (n := n + 0) h0
  obtain ⟨x1, rfl, w1⟩ := sh3 (n := n + 0) h1
  exact ⟨⟨x0, x1⟩, rfl, w0, w1⟩
theorem sh118 {n : Nat} {d : D} (h : Sh G (n + 3) 118 d) : ∃ x : List THit, d = encLTHit x ∧ wfLTHit x := by
  obtain ⟨xs, rfl, hm, hx⟩ := h
  obtain ⟨l, rfl, hl⟩ := Sh_list (Γ := G) (n := n + 2) (e := 198) (fun d hd => sh198 (n := n + 0) hd) hx
  exact ⟨l, rfl, by simpa using hm, hl⟩
theorem sh196 {n : Nat} {d : D} (h : Sh G (n + 2) 196 d) : ∃ x : THit, d = encTHit x ∧ wfTHit x := by
  obtain ⟨cs, rfl, _, d0, r0, h0, _, rfl, _, d1, r1, h1, _, rfl, rfl⟩ := h
  obtain ⟨x0, rfl, w0⟩ := sh3 (n := n + 0) h0
  obtain ⟨x1, rfl, w1⟩ := sh3 (n := n + 0) h1
  exact ⟨⟨x0, x1⟩, rfl, w0, w1⟩
theorem sh121 {n : Nat} {d : D} (h : Sh G (n + 3) 121 d) : ∃ x : List THit, d = encLTHit x ∧ wfLTHit x := by
  obtain ⟨xs, rfl, hm, hx⟩ := h
  obtain ⟨l, rfl, hl⟩ := Sh_list (Γ := G) (n := n + 2) (e := 196) (fun d hd => sh196 (n := n + 0) hd) hx
  exact ⟨l, rfl, by simpa using hm, hl⟩
theorem sh136 {n : Nat} {d : D} (h : Sh G (n + 2) 136 d) : ∃ x : TInner, d = encTInner x ∧ wfTInner x := by
  obtain ⟨cs, rfl, _, d0, r0, h0, _, rfl, _, d1, r1, h1, _, rfl, rfl⟩ := h
  obtain ⟨x0, rfl, w0⟩ := sh3 (n := n + 0) h0
  obtain ⟨x1, rfl, w1⟩ := sh3 (n := n + 0) h1
  exact ⟨⟨x0, x1⟩, rfl, w0, w1⟩
theorem sh141 {n : Nat} {d : D} (h : Sh G (n + 1) 141 d) : ∃ x : Int, d = dU x ∧ inR .u8 x := h
theorem sh146 {n : Nat} {d : D} (h : Sh G (n + 2) 146 d) : ∃ x : TTicket, d = encTTicket x ∧ wfTTicket x := by
  obtain ⟨cs, rfl, _, d0, r0, h0, _, rfl, _, d1, r1, h1, _, rfl, _, d2, r2, h2, _, rfl, rfl⟩ := h
  obtain ⟨x0, rfl, w0⟩ := sh3 (n := n + 0) h0
  obtain ⟨x1, rfl, w1⟩ := sh3 (n := n + 0) h1
  obtain ⟨x2, rfl, w2⟩ := sh3 (n := n + 0) h2
  exact ⟨⟨x0, x1, x2⟩, rfl, w0, w1, w2⟩
theorem sh160 {n : Nat} {d : D} (h : Sh G (n + 2) 160 d) : ∃ x : TEntry, d = encTEntry x ∧ wfTEntry x := by
  obtain ⟨cs, rfl, _, d0, r0, h0, _, rfl, _, d1, r1, h1, _, rfl, _, d2, r2, h2, _, rfl, _, d3, r3, h3, _, rfl, rfl⟩ := h
  obtain ⟨x0, rfl, w0⟩ := sh3 (n := n + 0) h0
  obtain ⟨x1, rfl, w1⟩ := sh3 (n := n + 0) h1
  obtain ⟨x2, rfl, w2⟩ := sh3 (n := n + 0) h2
  obtain ⟨x3, rfl, w3⟩ := sh3 (n := n + 0) h3
  exact ⟨⟨x0, x1, x2, x3⟩, rfl, w0, w1, w2, w3⟩
theorem sh169 {n : Nat} {d : D} (h : Sh G (n + 2) 169 d) : ∃ x : TTask, d = encTTask x ∧ wfTTask x := by
  obtain ⟨cs, rfl, _, d0, r0, h0, _, rfl, _, d1, r1, h1, _, rfl, _, d2, r2, h2, _, rfl, rfl⟩ := h
  obtain ⟨x0, rfl, w0⟩ := sh3 (n := n + 0) h0
  obtain ⟨x1, rfl, w1⟩ := sh3 (n := n + 0) h1
  obtain ⟨x2, rfl, w2⟩ := sh3 (n := n + 0) h2
  exact ⟨⟨x0, x1, x2⟩, rfl, w0, w1, w2⟩
theorem sh178 {n : Nat} {d : D} (h : Sh G (n + 2) 178 d) : ∃ x : List ByteArray, d = encLS x ∧ wfLS x := by
  obtain ⟨xs, rfl, hm, hx⟩ := h
  obtain ⟨l, rfl, hl⟩ := Sh_list (Γ := G) (n := n + 1) (e := 9) (fun d hd => sh9 (n := n + 0) hd) hx
  exact ⟨l, rfl, by simpa using hm, hl⟩
theorem sh183 {n : Nat} {d : D} (h : Sh G (n + 2) 183 d) : ∃ x : TPeak, d = encTPeak x ∧ wfTPeak x := by
  obtain ⟨cs, rfl, _, d0, r0, h0, _, rfl, _, d1, r1, h1, _, rfl, rfl⟩ := h
  obtain ⟨x0, rfl, w0⟩ := sh3 (n := n + 0) h0
  obtain ⟨x1, rfl, w1⟩ := sh3 (n := n + 0) h1
  exact ⟨⟨x0, x1⟩, rfl, w0, w1⟩
theorem sh184 {n : Nat} {d : D} (h : Sh G (n + 2) 184 d) : ∃ x : TPeak, d = encTPeak x ∧ wfTPeak x := by
  obtain ⟨cs, rfl, _, d0, r0, h0, _, rfl, _, d1, r1, h1, _, rfl, rfl⟩ := h
  obtain ⟨x0, rfl, w0⟩ := sh3 (n := n + 0) h0
  obtain ⟨x1, rfl, w1⟩ := sh3 (n := n + 0) h1
  exact ⟨⟨x0, x1⟩, rfl, w0, w1⟩
theorem sh187 {n : Nat} {d : D} (h : Sh G (n + 2) 187 d) : ∃ x : TClaim, d = encTClaim x ∧ wfTClaim x := by
  obtain ⟨cs, rfl, _, d0, r0, h0, _, rfl, _, d1, r1, h1, _, rfl, _, d2, r2, h2, _, rfl, _, d3, r3, h3, _, rfl, _, d4, r4, h4, _, rfl, rfl⟩ := h
  obtain ⟨x0, rfl, w0⟩ := sh3 (n := n + 0) h0
  obtain ⟨x1, rfl, w1⟩ := sh3 (n := n + 0) h1
  obtain ⟨x2, rfl, w2⟩ := sh3 (n := n + 0) h2
  obtain ⟨x3, rfl, w3⟩ := sh3 (n := n + 0) h3
  obtain ⟨x4, rfl, w4⟩ := sh3 (n := n + 0) h4
  exact ⟨⟨x0, x1, x2, x3, x4⟩, rfl, w0, w1, w2, w3, w4⟩
theorem sh195 {n : Nat} {d : D} (h : Sh G (n + 2) 195 d) : ∃ x : THit, d = encTHit x ∧ wfTHit x := by
  obtain ⟨cs, rfl, _, d0, r0, h0, _, rfl, _, d1, r1, h1, _, rfl, rfl⟩ := h
  obtain ⟨x0, rfl, w0⟩ := sh3 (n := n + 0) h0
  obtain ⟨x1, rfl, w1⟩ := sh3 (n := n + 0) h1
  exact ⟨⟨x0, x1⟩, rfl, w0, w1⟩
theorem sh205 {n : Nat} {d : D} (h : Sh G (n + 2) 205 d) : ∃ x : TLikeness, d = encTLikeness x ∧ wfTLikeness x := by
  obtain ⟨cs, rfl, _, d0, r0, h0, _, rfl, _, d1, r1, h1, _, rfl, _, d2, r2, h2, _, rfl, _, d3, r3, h3, _, rfl, rfl⟩ := h
  obtain ⟨x0, rfl, w0⟩ := sh3 (n := n + 0) h0
  obtain ⟨x1, rfl, w1⟩ := sh3 (n := n + 0) h1
  obtain ⟨x2, rfl, w2⟩ := sh3 (n := n + 0) h2
  obtain ⟨x3, rfl, w3⟩ := sh3 (n := n + 0) h3
  exact ⟨⟨x0, x1, x2, x3⟩, rfl, w0, w1, w2, w3⟩
theorem sh206 {n : Nat} {d : D} (h : Sh G (n + 2) 206 d) : ∃ x : TLikeness, d = encTLikeness x ∧ wfTLikeness x := by
  obtain ⟨cs, rfl, _, d0, r0, h0, _, rfl, _, d1, r1, h1, _, rfl, _, d2, r2, h2, _, rfl, _, d3, r3, h3, _, rfl, rfl⟩ := h
  obtain ⟨x0, rfl, w0⟩ := sh3 (n := n + 0) h0
  obtain ⟨x1, rfl, w1⟩ := sh3 (n := n + 0) h1
  obtain ⟨x2, rfl, w2⟩ := sh3 (n := n + 0) h2
  obtain ⟨x3, rfl, w3⟩ := sh3 (n := n + 0) h3
  exact ⟨⟨x0, x1, x2, x3⟩, rfl, w0, w1, w2, w3⟩
theorem sh214 {n : Nat} {d : D} (h : Sh G (n + 2) 214 d) : ∃ x : TMark, d = encTMark x ∧ wfTMark x := by
  obtain ⟨cs, rfl, _, d0, r0, h0, _, rfl, _, d1, r1, h1, _, rfl, rfl⟩ := h
  obtain ⟨x0, rfl, w0⟩ := sh3 (n := n + 0) h0
  obtain ⟨x1, rfl, w1⟩ := sh3 (n := n + 0) h1
  exact ⟨⟨x0, x1⟩, rfl, w0, w1⟩
theorem sh245 {n : Nat} {d : D} (h : Sh G (n + 1) 245 d) : ∃ x : Int, d = (fun n => .lit (.int .u32 n)) x ∧ inR .u32 x := h
end Go.Proofs.Ytadipfpojlceeaa
