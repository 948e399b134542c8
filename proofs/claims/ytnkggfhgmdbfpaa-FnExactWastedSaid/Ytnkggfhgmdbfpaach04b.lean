/- Contracts of the functions that the laws run. -/
import Derived.Test.YtnkggfhgmdbfpaahelpA
import Derived.Test.YtnkggfhgmdbfpaaEngB
namespace Go.Proofs.Ytnkggfhgmdbfpaa
open Go Go.Eng
set_option linter.unusedSimpArgs false
set_option linter.unusedVariables false
set_option maxRecDepth 10000
set_option maxHeartbeats 1000000
def mEqB (a b : List Int) : Bool := a.map (fun n => UInt8.ofNat n.toNat) == b.map (fun n => UInt8.ofNat n.toNat)
def kindNames : List ByteArray := [⟨#[]⟩, ⟨#[98, 97, 103]⟩, ⟨#[99, 111, 97, 116]⟩, ⟨#[107, 101, 121, 115]⟩, ⟨#[109, 111, 110, 101, 121]⟩, ⟨#[112, 104, 111, 110, 101]⟩, ⟨#[117, 109, 98, 114, 101, 108, 108, 97]⟩, ⟨#[102, 111, 111, 100]⟩, ⟨#[111, 116, 104, 101, 114]⟩]
def mTextAt (i : Int) (l : List ByteArray) : ByteArray := if mIn i 0 (l.length - 1) then l[i.toNat]?.getD ⟨#[]⟩ else ⟨#[]⟩
def mKind (i : Int) : ByteArray := mTextAt i kindNames
def colourNames : List ByteArray := [⟨#[98, 108, 97, 99, 107]⟩, ⟨#[119, 104, 105, 116, 101]⟩, ⟨#[114, 101, 100]⟩, ⟨#[103, 114, 101, 101, 110]⟩, ⟨#[98, 108, 117, 101]⟩, ⟨#[121, 101, 108, 108, 111, 119]⟩, ⟨#[98, 114, 111, 119, 110]⟩, ⟨#[103, 114, 101, 121]⟩]
def mColour (i : Int) : ByteArray := mTextAt i colourNames
end Go.Proofs.Ytnkggfhgmdbfpaa
