import PyProof.Rows.All
import Wide.All
import OpenK.AllK
import Wide.FinOn
import Lean
import PyProof.EqAt
import PyProof.EqKinds
import PyProof.TupleCall
import PyProof.NeKinds
import PyProof.MaxThree
import PySem.Challenge.RW_grainstore_k06_refused
set_option Elab.async false
set_option linter.all false
set_option maxRecDepth 100000
/-! Existentials and conjunctions, introduced at once. -/
theorem c_AA  {A1 : Prop} {A2 : Prop} {T : Prop} (h1 : A1 ) (h2 : A2 ) (t : T ) : A1 ∧ A2 ∧ T  := ⟨h1, h2, t⟩
theorem c_AAA  {A1 : Prop} {A2 : Prop} {A3 : Prop} {T : Prop} (h1 : A1 ) (h2 : A2 ) (h3 : A3 ) (t : T ) : A1 ∧ A2 ∧ A3 ∧ T  := ⟨h1, h2, h3, t⟩
theorem c_AAAA  {A1 : Prop} {A2 : Prop} {A3 : Prop} {A4 : Prop} {T : Prop} (h1 : A1 ) (h2 : A2 ) (h3 : A3 ) (h4 : A4 ) (t : T ) : A1 ∧ A2 ∧ A3 ∧ A4 ∧ T  := ⟨h1, h2, h3, h4, t⟩
theorem c_AAAAA  {A1 : Prop} {A2 : Prop} {A3 : Prop} {A4 : Prop} {A5 : Prop} {T : Prop} (h1 : A1 ) (h2 : A2 ) (h3 : A3 ) (h4 : A4 ) (h5 : A5 ) (t : T ) : A1 ∧ A2 ∧ A3 ∧ A4 ∧ A5 ∧ T  := ⟨h1, h2, h3, h4, h5, t⟩
theorem c_AAAAEA {α1 : Type} {A1 : Prop} {A2 : Prop} {A3 : Prop} {A4 : Prop} {A5 : α1 → Prop} {T : α1 → Prop} (h1 : A1 ) (h2 : A2 ) (h3 : A3 ) (h4 : A4 ) (x1 : α1) (h5 : A5 x1) (t : T x1) : A1 ∧ A2 ∧ A3 ∧ A4 ∧ ∃ x1, A5 x1 ∧ T x1 := ⟨h1, h2, h3, h4, x1, h5, t⟩
theorem c_AAE {α1 : Type} {A1 : Prop} {A2 : Prop} {T : α1 → Prop} (h1 : A1 ) (h2 : A2 ) (x1 : α1) (t : T x1) : A1 ∧ A2 ∧ ∃ x1, T x1 := ⟨h1, h2, x1, t⟩
theorem c_AAEA {α1 : Type} {A1 : Prop} {A2 : Prop} {A3 : α1 → Prop} {T : α1 → Prop} (h1 : A1 ) (h2 : A2 ) (x1 : α1) (h3 : A3 x1) (t : T x1) : A1 ∧ A2 ∧ ∃ x1, A3 x1 ∧ T x1 := ⟨h1, h2, x1, h3, t⟩
theorem c_AAEAEEEA {α1 α2 α3 α4 : Type} {A1 : Prop} {A2 : Prop} {A3 : α1 → Prop} {A4 : α1 → α2 → α3 → α4 → Prop} {T : α1 → α2 → α3 → α4 → Prop} (h1 : A1 ) (h2 : A2 ) (x1 : α1) (h3 : A3 x1) (x2 : α2) (x3 : α3) (x4 : α4) (h4 : A4 x1 x2 x3 x4) (t : T x1 x2 x3 x4) : A1 ∧ A2 ∧ ∃ x1, A3 x1 ∧ ∃ x2, ∃ x3, ∃ x4, A4 x1 x2 x3 x4 ∧ T x1 x2 x3 x4 := ⟨h1, h2, x1, h3, x2, x3, x4, h4, t⟩
theorem c_AAEE {α1 α2 : Type} {A1 : Prop} {A2 : Prop} {T : α1 → α2 → Prop} (h1 : A1 ) (h2 : A2 ) (x1 : α1) (x2 : α2) (t : T x1 x2) : A1 ∧ A2 ∧ ∃ x1, ∃ x2, T x1 x2 := ⟨h1, h2, x1, x2, t⟩
theorem c_AE {α1 : Type} {A1 : Prop} {T : α1 → Prop} (h1 : A1 ) (x1 : α1) (t : T x1) : A1 ∧ ∃ x1, T x1 := ⟨h1, x1, t⟩
theorem c_AEA {α1 : Type} {A1 : Prop} {A2 : α1 → Prop} {T : α1 → Prop} (h1 : A1 ) (x1 : α1) (h2 : A2 x1) (t : T x1) : A1 ∧ ∃ x1, A2 x1 ∧ T x1 := ⟨h1, x1, h2, t⟩
theorem c_AEE {α1 α2 : Type} {A1 : Prop} {T : α1 → α2 → Prop} (h1 : A1 ) (x1 : α1) (x2 : α2) (t : T x1 x2) : A1 ∧ ∃ x1, ∃ x2, T x1 x2 := ⟨h1, x1, x2, t⟩
theorem c_AEEA {α1 α2 : Type} {A1 : Prop} {A2 : α1 → α2 → Prop} {T : α1 → α2 → Prop} (h1 : A1 ) (x1 : α1) (x2 : α2) (h2 : A2 x1 x2) (t : T x1 x2) : A1 ∧ ∃ x1, ∃ x2, A2 x1 x2 ∧ T x1 x2 := ⟨h1, x1, x2, h2, t⟩
theorem c_AEEAA {α1 α2 : Type} {A1 : Prop} {A2 : α1 → α2 → Prop} {A3 : α1 → α2 → Prop} {T : α1 → α2 → Prop} (h1 : A1 ) (x1 : α1) (x2 : α2) (h2 : A2 x1 x2) (h3 : A3 x1 x2) (t : T x1 x2) : A1 ∧ ∃ x1, ∃ x2, A2 x1 x2 ∧ A3 x1 x2 ∧ T x1 x2 := ⟨h1, x1, x2, h2, h3, t⟩
theorem c_AEEAAAA {α1 α2 : Type} {A1 : Prop} {A2 : α1 → α2 → Prop} {A3 : α1 → α2 → Prop} {A4 : α1 → α2 → Prop} {A5 : α1 → α2 → Prop} {T : α1 → α2 → Prop} (h1 : A1 ) (x1 : α1) (x2 : α2) (h2 : A2 x1 x2) (h3 : A3 x1 x2) (h4 : A4 x1 x2) (h5 : A5 x1 x2) (t : T x1 x2) : A1 ∧ ∃ x1, ∃ x2, A2 x1 x2 ∧ A3 x1 x2 ∧ A4 x1 x2 ∧ A5 x1 x2 ∧ T x1 x2 := ⟨h1, x1, x2, h2, h3, h4, h5, t⟩
theorem c_AEEAAAAAA {α1 α2 : Type} {A1 : Prop} {A2 : α1 → α2 → Prop} {A3 : α1 → α2 → Prop} {A4 : α1 → α2 → Prop} {A5 : α1 → α2 → Prop} {A6 : α1 → α2 → Prop} {A7 : α1 → α2 → Prop} {T : α1 → α2 → Prop} (h1 : A1 ) (x1 : α1) (x2 : α2) (h2 : A2 x1 x2) (h3 : A3 x1 x2) (h4 : A4 x1 x2) (h5 : A5 x1 x2) (h6 : A6 x1 x2) (h7 : A7 x1 x2) (t : T x1 x2) : A1 ∧ ∃ x1, ∃ x2, A2 x1 x2 ∧ A3 x1 x2 ∧ A4 x1 x2 ∧ A5 x1 x2 ∧ A6 x1 x2 ∧ A7 x1 x2 ∧ T x1 x2 := ⟨h1, x1, x2, h2, h3, h4, h5, h6, h7, t⟩
theorem c_AEEE {α1 α2 α3 : Type} {A1 : Prop} {T : α1 → α2 → α3 → Prop} (h1 : A1 ) (x1 : α1) (x2 : α2) (x3 : α3) (t : T x1 x2 x3) : A1 ∧ ∃ x1, ∃ x2, ∃ x3, T x1 x2 x3 := ⟨h1, x1, x2, x3, t⟩
theorem c_EA {α1 : Type} {A1 : α1 → Prop} {T : α1 → Prop} (x1 : α1) (h1 : A1 x1) (t : T x1) : ∃ x1, A1 x1 ∧ T x1 := ⟨x1, h1, t⟩
theorem c_EAA {α1 : Type} {A1 : α1 → Prop} {A2 : α1 → Prop} {T : α1 → Prop} (x1 : α1) (h1 : A1 x1) (h2 : A2 x1) (t : T x1) : ∃ x1, A1 x1 ∧ A2 x1 ∧ T x1 := ⟨x1, h1, h2, t⟩
theorem c_EAAA {α1 : Type} {A1 : α1 → Prop} {A2 : α1 → Prop} {A3 : α1 → Prop} {T : α1 → Prop} (x1 : α1) (h1 : A1 x1) (h2 : A2 x1) (h3 : A3 x1) (t : T x1) : ∃ x1, A1 x1 ∧ A2 x1 ∧ A3 x1 ∧ T x1 := ⟨x1, h1, h2, h3, t⟩
theorem c_EAAAA {α1 : Type} {A1 : α1 → Prop} {A2 : α1 → Prop} {A3 : α1 → Prop} {A4 : α1 → Prop} {T : α1 → Prop} (x1 : α1) (h1 : A1 x1) (h2 : A2 x1) (h3 : A3 x1) (h4 : A4 x1) (t : T x1) : ∃ x1, A1 x1 ∧ A2 x1 ∧ A3 x1 ∧ A4 x1 ∧ T x1 := ⟨x1, h1, h2, h3, h4, t⟩
theorem c_EAAE {α1 α2 : Type} {A1 : α1 → Prop} {A2 : α1 → Prop} {T : α1 → α2 → Prop} (x1 : α1) (h1 : A1 x1) (h2 : A2 x1) (x2 : α2) (t : T x1 x2) : ∃ x1, A1 x1 ∧ A2 x1 ∧ ∃ x2, T x1 x2 := ⟨x1, h1, h2, x2, t⟩
theorem c_EAAEA {α1 α2 : Type} {A1 : α1 → Prop} {A2 : α1 → Prop} {A3 : α1 → α2 → Prop} {T : α1 → α2 → Prop} (x1 : α1) (h1 : A1 x1) (h2 : A2 x1) (x2 : α2) (h3 : A3 x1 x2) (t : T x1 x2) : ∃ x1, A1 x1 ∧ A2 x1 ∧ ∃ x2, A3 x1 x2 ∧ T x1 x2 := ⟨x1, h1, h2, x2, h3, t⟩
theorem c_EAEA {α1 α2 : Type} {A1 : α1 → Prop} {A2 : α1 → α2 → Prop} {T : α1 → α2 → Prop} (x1 : α1) (h1 : A1 x1) (x2 : α2) (h2 : A2 x1 x2) (t : T x1 x2) : ∃ x1, A1 x1 ∧ ∃ x2, A2 x1 x2 ∧ T x1 x2 := ⟨x1, h1, x2, h2, t⟩
theorem c_EAEAA {α1 α2 : Type} {A1 : α1 → Prop} {A2 : α1 → α2 → Prop} {A3 : α1 → α2 → Prop} {T : α1 → α2 → Prop} (x1 : α1) (h1 : A1 x1) (x2 : α2) (h2 : A2 x1 x2) (h3 : A3 x1 x2) (t : T x1 x2) : ∃ x1, A1 x1 ∧ ∃ x2, A2 x1 x2 ∧ A3 x1 x2 ∧ T x1 x2 := ⟨x1, h1, x2, h2, h3, t⟩
theorem c_EAEEEAAA {α1 α2 α3 α4 : Type} {A1 : α1 → Prop} {A2 : α1 → α2 → α3 → α4 → Prop} {A3 : α1 → α2 → α3 → α4 → Prop} {A4 : α1 → α2 → α3 → α4 → Prop} {T : α1 → α2 → α3 → α4 → Prop} (x1 : α1) (h1 : A1 x1) (x2 : α2) (x3 : α3) (x4 : α4) (h2 : A2 x1 x2 x3 x4) (h3 : A3 x1 x2 x3 x4) (h4 : A4 x1 x2 x3 x4) (t : T x1 x2 x3 x4) : ∃ x1, A1 x1 ∧ ∃ x2, ∃ x3, ∃ x4, A2 x1 x2 x3 x4 ∧ A3 x1 x2 x3 x4 ∧ A4 x1 x2 x3 x4 ∧ T x1 x2 x3 x4 := ⟨x1, h1, x2, x3, x4, h2, h3, h4, t⟩
theorem c_EAEEEEAAAAAA {α1 α2 α3 α4 α5 : Type} {A1 : α1 → Prop} {A2 : α1 → α2 → α3 → α4 → α5 → Prop} {A3 : α1 → α2 → α3 → α4 → α5 → Prop} {A4 : α1 → α2 → α3 → α4 → α5 → Prop} {A5 : α1 → α2 → α3 → α4 → α5 → Prop} {A6 : α1 → α2 → α3 → α4 → α5 → Prop} {A7 : α1 → α2 → α3 → α4 → α5 → Prop} {T : α1 → α2 → α3 → α4 → α5 → Prop} (x1 : α1) (h1 : A1 x1) (x2 : α2) (x3 : α3) (x4 : α4) (x5 : α5) (h2 : A2 x1 x2 x3 x4 x5) (h3 : A3 x1 x2 x3 x4 x5) (h4 : A4 x1 x2 x3 x4 x5) (h5 : A5 x1 x2 x3 x4 x5) (h6 : A6 x1 x2 x3 x4 x5) (h7 : A7 x1 x2 x3 x4 x5) (t : T x1 x2 x3 x4 x5) : ∃ x1, A1 x1 ∧ ∃ x2, ∃ x3, ∃ x4, ∃ x5, A2 x1 x2 x3 x4 x5 ∧ A3 x1 x2 x3 x4 x5 ∧ A4 x1 x2 x3 x4 x5 ∧ A5 x1 x2 x3 x4 x5 ∧ A6 x1 x2 x3 x4 x5 ∧ A7 x1 x2 x3 x4 x5 ∧ T x1 x2 x3 x4 x5 := ⟨x1, h1, x2, x3, x4, x5, h2, h3, h4, h5, h6, h7, t⟩
theorem c_EE {α1 α2 : Type} {T : α1 → α2 → Prop} (x1 : α1) (x2 : α2) (t : T x1 x2) : ∃ x1, ∃ x2, T x1 x2 := ⟨x1, x2, t⟩
theorem c_EEA {α1 α2 : Type} {A1 : α1 → α2 → Prop} {T : α1 → α2 → Prop} (x1 : α1) (x2 : α2) (h1 : A1 x1 x2) (t : T x1 x2) : ∃ x1, ∃ x2, A1 x1 x2 ∧ T x1 x2 := ⟨x1, x2, h1, t⟩
theorem c_EEAA {α1 α2 : Type} {A1 : α1 → α2 → Prop} {A2 : α1 → α2 → Prop} {T : α1 → α2 → Prop} (x1 : α1) (x2 : α2) (h1 : A1 x1 x2) (h2 : A2 x1 x2) (t : T x1 x2) : ∃ x1, ∃ x2, A1 x1 x2 ∧ A2 x1 x2 ∧ T x1 x2 := ⟨x1, x2, h1, h2, t⟩
theorem c_EEAAA {α1 α2 : Type} {A1 : α1 → α2 → Prop} {A2 : α1 → α2 → Prop} {A3 : α1 → α2 → Prop} {T : α1 → α2 → Prop} (x1 : α1) (x2 : α2) (h1 : A1 x1 x2) (h2 : A2 x1 x2) (h3 : A3 x1 x2) (t : T x1 x2) : ∃ x1, ∃ x2, A1 x1 x2 ∧ A2 x1 x2 ∧ A3 x1 x2 ∧ T x1 x2 := ⟨x1, x2, h1, h2, h3, t⟩
theorem c_EEAAAA {α1 α2 : Type} {A1 : α1 → α2 → Prop} {A2 : α1 → α2 → Prop} {A3 : α1 → α2 → Prop} {A4 : α1 → α2 → Prop} {T : α1 → α2 → Prop} (x1 : α1) (x2 : α2) (h1 : A1 x1 x2) (h2 : A2 x1 x2) (h3 : A3 x1 x2) (h4 : A4 x1 x2) (t : T x1 x2) : ∃ x1, ∃ x2, A1 x1 x2 ∧ A2 x1 x2 ∧ A3 x1 x2 ∧ A4 x1 x2 ∧ T x1 x2 := ⟨x1, x2, h1, h2, h3, h4, t⟩
theorem c_EEAAAAA {α1 α2 : Type} {A1 : α1 → α2 → Prop} {A2 : α1 → α2 → Prop} {A3 : α1 → α2 → Prop} {A4 : α1 → α2 → Prop} {A5 : α1 → α2 → Prop} {T : α1 → α2 → Prop} (x1 : α1) (x2 : α2) (h1 : A1 x1 x2) (h2 : A2 x1 x2) (h3 : A3 x1 x2) (h4 : A4 x1 x2) (h5 : A5 x1 x2) (t : T x1 x2) : ∃ x1, ∃ x2, A1 x1 x2 ∧ A2 x1 x2 ∧ A3 x1 x2 ∧ A4 x1 x2 ∧ A5 x1 x2 ∧ T x1 x2 := ⟨x1, x2, h1, h2, h3, h4, h5, t⟩
theorem c_EEAAEA {α1 α2 α3 : Type} {A1 : α1 → α2 → Prop} {A2 : α1 → α2 → Prop} {A3 : α1 → α2 → α3 → Prop} {T : α1 → α2 → α3 → Prop} (x1 : α1) (x2 : α2) (h1 : A1 x1 x2) (h2 : A2 x1 x2) (x3 : α3) (h3 : A3 x1 x2 x3) (t : T x1 x2 x3) : ∃ x1, ∃ x2, A1 x1 x2 ∧ A2 x1 x2 ∧ ∃ x3, A3 x1 x2 x3 ∧ T x1 x2 x3 := ⟨x1, x2, h1, h2, x3, h3, t⟩
theorem c_EEE {α1 α2 α3 : Type} {T : α1 → α2 → α3 → Prop} (x1 : α1) (x2 : α2) (x3 : α3) (t : T x1 x2 x3) : ∃ x1, ∃ x2, ∃ x3, T x1 x2 x3 := ⟨x1, x2, x3, t⟩
theorem c_EEEA {α1 α2 α3 : Type} {A1 : α1 → α2 → α3 → Prop} {T : α1 → α2 → α3 → Prop} (x1 : α1) (x2 : α2) (x3 : α3) (h1 : A1 x1 x2 x3) (t : T x1 x2 x3) : ∃ x1, ∃ x2, ∃ x3, A1 x1 x2 x3 ∧ T x1 x2 x3 := ⟨x1, x2, x3, h1, t⟩
theorem c_EEEAA {α1 α2 α3 : Type} {A1 : α1 → α2 → α3 → Prop} {A2 : α1 → α2 → α3 → Prop} {T : α1 → α2 → α3 → Prop} (x1 : α1) (x2 : α2) (x3 : α3) (h1 : A1 x1 x2 x3) (h2 : A2 x1 x2 x3) (t : T x1 x2 x3) : ∃ x1, ∃ x2, ∃ x3, A1 x1 x2 x3 ∧ A2 x1 x2 x3 ∧ T x1 x2 x3 := ⟨x1, x2, x3, h1, h2, t⟩
theorem c_EEEAAA {α1 α2 α3 : Type} {A1 : α1 → α2 → α3 → Prop} {A2 : α1 → α2 → α3 → Prop} {A3 : α1 → α2 → α3 → Prop} {T : α1 → α2 → α3 → Prop} (x1 : α1) (x2 : α2) (x3 : α3) (h1 : A1 x1 x2 x3) (h2 : A2 x1 x2 x3) (h3 : A3 x1 x2 x3) (t : T x1 x2 x3) : ∃ x1, ∃ x2, ∃ x3, A1 x1 x2 x3 ∧ A2 x1 x2 x3 ∧ A3 x1 x2 x3 ∧ T x1 x2 x3 := ⟨x1, x2, x3, h1, h2, h3, t⟩
theorem c_EEEAAAA {α1 α2 α3 : Type} {A1 : α1 → α2 → α3 → Prop} {A2 : α1 → α2 → α3 → Prop} {A3 : α1 → α2 → α3 → Prop} {A4 : α1 → α2 → α3 → Prop} {T : α1 → α2 → α3 → Prop} (x1 : α1) (x2 : α2) (x3 : α3) (h1 : A1 x1 x2 x3) (h2 : A2 x1 x2 x3) (h3 : A3 x1 x2 x3) (h4 : A4 x1 x2 x3) (t : T x1 x2 x3) : ∃ x1, ∃ x2, ∃ x3, A1 x1 x2 x3 ∧ A2 x1 x2 x3 ∧ A3 x1 x2 x3 ∧ A4 x1 x2 x3 ∧ T x1 x2 x3 := ⟨x1, x2, x3, h1, h2, h3, h4, t⟩
theorem c_EEEAAAAA {α1 α2 α3 : Type} {A1 : α1 → α2 → α3 → Prop} {A2 : α1 → α2 → α3 → Prop} {A3 : α1 → α2 → α3 → Prop} {A4 : α1 → α2 → α3 → Prop} {A5 : α1 → α2 → α3 → Prop} {T : α1 → α2 → α3 → Prop} (x1 : α1) (x2 : α2) (x3 : α3) (h1 : A1 x1 x2 x3) (h2 : A2 x1 x2 x3) (h3 : A3 x1 x2 x3) (h4 : A4 x1 x2 x3) (h5 : A5 x1 x2 x3) (t : T x1 x2 x3) : ∃ x1, ∃ x2, ∃ x3, A1 x1 x2 x3 ∧ A2 x1 x2 x3 ∧ A3 x1 x2 x3 ∧ A4 x1 x2 x3 ∧ A5 x1 x2 x3 ∧ T x1 x2 x3 := ⟨x1, x2, x3, h1, h2, h3, h4, h5, t⟩
theorem c_EEEAAAAAA {α1 α2 α3 : Type} {A1 : α1 → α2 → α3 → Prop} {A2 : α1 → α2 → α3 → Prop} {A3 : α1 → α2 → α3 → Prop} {A4 : α1 → α2 → α3 → Prop} {A5 : α1 → α2 → α3 → Prop} {A6 : α1 → α2 → α3 → Prop} {T : α1 → α2 → α3 → Prop} (x1 : α1) (x2 : α2) (x3 : α3) (h1 : A1 x1 x2 x3) (h2 : A2 x1 x2 x3) (h3 : A3 x1 x2 x3) (h4 : A4 x1 x2 x3) (h5 : A5 x1 x2 x3) (h6 : A6 x1 x2 x3) (t : T x1 x2 x3) : ∃ x1, ∃ x2, ∃ x3, A1 x1 x2 x3 ∧ A2 x1 x2 x3 ∧ A3 x1 x2 x3 ∧ A4 x1 x2 x3 ∧ A5 x1 x2 x3 ∧ A6 x1 x2 x3 ∧ T x1 x2 x3 := ⟨x1, x2, x3, h1, h2, h3, h4, h5, h6, t⟩
theorem c_EEEEA {α1 α2 α3 α4 : Type} {A1 : α1 → α2 → α3 → α4 → Prop} {T : α1 → α2 → α3 → α4 → Prop} (x1 : α1) (x2 : α2) (x3 : α3) (x4 : α4) (h1 : A1 x1 x2 x3 x4) (t : T x1 x2 x3 x4) : ∃ x1, ∃ x2, ∃ x3, ∃ x4, A1 x1 x2 x3 x4 ∧ T x1 x2 x3 x4 := ⟨x1, x2, x3, x4, h1, t⟩
theorem c_EEEEAA {α1 α2 α3 α4 : Type} {A1 : α1 → α2 → α3 → α4 → Prop} {A2 : α1 → α2 → α3 → α4 → Prop} {T : α1 → α2 → α3 → α4 → Prop} (x1 : α1) (x2 : α2) (x3 : α3) (x4 : α4) (h1 : A1 x1 x2 x3 x4) (h2 : A2 x1 x2 x3 x4) (t : T x1 x2 x3 x4) : ∃ x1, ∃ x2, ∃ x3, ∃ x4, A1 x1 x2 x3 x4 ∧ A2 x1 x2 x3 x4 ∧ T x1 x2 x3 x4 := ⟨x1, x2, x3, x4, h1, h2, t⟩
theorem c_EEEEAAAA {α1 α2 α3 α4 : Type} {A1 : α1 → α2 → α3 → α4 → Prop} {A2 : α1 → α2 → α3 → α4 → Prop} {A3 : α1 → α2 → α3 → α4 → Prop} {A4 : α1 → α2 → α3 → α4 → Prop} {T : α1 → α2 → α3 → α4 → Prop} (x1 : α1) (x2 : α2) (x3 : α3) (x4 : α4) (h1 : A1 x1 x2 x3 x4) (h2 : A2 x1 x2 x3 x4) (h3 : A3 x1 x2 x3 x4) (h4 : A4 x1 x2 x3 x4) (t : T x1 x2 x3 x4) : ∃ x1, ∃ x2, ∃ x3, ∃ x4, A1 x1 x2 x3 x4 ∧ A2 x1 x2 x3 x4 ∧ A3 x1 x2 x3 x4 ∧ A4 x1 x2 x3 x4 ∧ T x1 x2 x3 x4 := ⟨x1, x2, x3, x4, h1, h2, h3, h4, t⟩
theorem c_EEEEAAAAA {α1 α2 α3 α4 : Type} {A1 : α1 → α2 → α3 → α4 → Prop} {A2 : α1 → α2 → α3 → α4 → Prop} {A3 : α1 → α2 → α3 → α4 → Prop} {A4 : α1 → α2 → α3 → α4 → Prop} {A5 : α1 → α2 → α3 → α4 → Prop} {T : α1 → α2 → α3 → α4 → Prop} (x1 : α1) (x2 : α2) (x3 : α3) (x4 : α4) (h1 : A1 x1 x2 x3 x4) (h2 : A2 x1 x2 x3 x4) (h3 : A3 x1 x2 x3 x4) (h4 : A4 x1 x2 x3 x4) (h5 : A5 x1 x2 x3 x4) (t : T x1 x2 x3 x4) : ∃ x1, ∃ x2, ∃ x3, ∃ x4, A1 x1 x2 x3 x4 ∧ A2 x1 x2 x3 x4 ∧ A3 x1 x2 x3 x4 ∧ A4 x1 x2 x3 x4 ∧ A5 x1 x2 x3 x4 ∧ T x1 x2 x3 x4 := ⟨x1, x2, x3, x4, h1, h2, h3, h4, h5, t⟩
theorem c_EEEEAAAAAA {α1 α2 α3 α4 : Type} {A1 : α1 → α2 → α3 → α4 → Prop} {A2 : α1 → α2 → α3 → α4 → Prop} {A3 : α1 → α2 → α3 → α4 → Prop} {A4 : α1 → α2 → α3 → α4 → Prop} {A5 : α1 → α2 → α3 → α4 → Prop} {A6 : α1 → α2 → α3 → α4 → Prop} {T : α1 → α2 → α3 → α4 → Prop} (x1 : α1) (x2 : α2) (x3 : α3) (x4 : α4) (h1 : A1 x1 x2 x3 x4) (h2 : A2 x1 x2 x3 x4) (h3 : A3 x1 x2 x3 x4) (h4 : A4 x1 x2 x3 x4) (h5 : A5 x1 x2 x3 x4) (h6 : A6 x1 x2 x3 x4) (t : T x1 x2 x3 x4) : ∃ x1, ∃ x2, ∃ x3, ∃ x4, A1 x1 x2 x3 x4 ∧ A2 x1 x2 x3 x4 ∧ A3 x1 x2 x3 x4 ∧ A4 x1 x2 x3 x4 ∧ A5 x1 x2 x3 x4 ∧ A6 x1 x2 x3 x4 ∧ T x1 x2 x3 x4 := ⟨x1, x2, x3, x4, h1, h2, h3, h4, h5, h6, t⟩
theorem c_EEEEAAAAAAA {α1 α2 α3 α4 : Type} {A1 : α1 → α2 → α3 → α4 → Prop} {A2 : α1 → α2 → α3 → α4 → Prop} {A3 : α1 → α2 → α3 → α4 → Prop} {A4 : α1 → α2 → α3 → α4 → Prop} {A5 : α1 → α2 → α3 → α4 → Prop} {A6 : α1 → α2 → α3 → α4 → Prop} {A7 : α1 → α2 → α3 → α4 → Prop} {T : α1 → α2 → α3 → α4 → Prop} (x1 : α1) (x2 : α2) (x3 : α3) (x4 : α4) (h1 : A1 x1 x2 x3 x4) (h2 : A2 x1 x2 x3 x4) (h3 : A3 x1 x2 x3 x4) (h4 : A4 x1 x2 x3 x4) (h5 : A5 x1 x2 x3 x4) (h6 : A6 x1 x2 x3 x4) (h7 : A7 x1 x2 x3 x4) (t : T x1 x2 x3 x4) : ∃ x1, ∃ x2, ∃ x3, ∃ x4, A1 x1 x2 x3 x4 ∧ A2 x1 x2 x3 x4 ∧ A3 x1 x2 x3 x4 ∧ A4 x1 x2 x3 x4 ∧ A5 x1 x2 x3 x4 ∧ A6 x1 x2 x3 x4 ∧ A7 x1 x2 x3 x4 ∧ T x1 x2 x3 x4 := ⟨x1, x2, x3, x4, h1, h2, h3, h4, h5, h6, h7, t⟩
theorem c_EEEEAAAAAEA {α1 α2 α3 α4 α5 : Type} {A1 : α1 → α2 → α3 → α4 → Prop} {A2 : α1 → α2 → α3 → α4 → Prop} {A3 : α1 → α2 → α3 → α4 → Prop} {A4 : α1 → α2 → α3 → α4 → Prop} {A5 : α1 → α2 → α3 → α4 → Prop} {A6 : α1 → α2 → α3 → α4 → α5 → Prop} {T : α1 → α2 → α3 → α4 → α5 → Prop} (x1 : α1) (x2 : α2) (x3 : α3) (x4 : α4) (h1 : A1 x1 x2 x3 x4) (h2 : A2 x1 x2 x3 x4) (h3 : A3 x1 x2 x3 x4) (h4 : A4 x1 x2 x3 x4) (h5 : A5 x1 x2 x3 x4) (x5 : α5) (h6 : A6 x1 x2 x3 x4 x5) (t : T x1 x2 x3 x4 x5) : ∃ x1, ∃ x2, ∃ x3, ∃ x4, A1 x1 x2 x3 x4 ∧ A2 x1 x2 x3 x4 ∧ A3 x1 x2 x3 x4 ∧ A4 x1 x2 x3 x4 ∧ A5 x1 x2 x3 x4 ∧ ∃ x5, A6 x1 x2 x3 x4 x5 ∧ T x1 x2 x3 x4 x5 := ⟨x1, x2, x3, x4, h1, h2, h3, h4, h5, x5, h6, t⟩
theorem c_EEEEAAAEA {α1 α2 α3 α4 α5 : Type} {A1 : α1 → α2 → α3 → α4 → Prop} {A2 : α1 → α2 → α3 → α4 → Prop} {A3 : α1 → α2 → α3 → α4 → Prop} {A4 : α1 → α2 → α3 → α4 → α5 → Prop} {T : α1 → α2 → α3 → α4 → α5 → Prop} (x1 : α1) (x2 : α2) (x3 : α3) (x4 : α4) (h1 : A1 x1 x2 x3 x4) (h2 : A2 x1 x2 x3 x4) (h3 : A3 x1 x2 x3 x4) (x5 : α5) (h4 : A4 x1 x2 x3 x4 x5) (t : T x1 x2 x3 x4 x5) : ∃ x1, ∃ x2, ∃ x3, ∃ x4, A1 x1 x2 x3 x4 ∧ A2 x1 x2 x3 x4 ∧ A3 x1 x2 x3 x4 ∧ ∃ x5, A4 x1 x2 x3 x4 x5 ∧ T x1 x2 x3 x4 x5 := ⟨x1, x2, x3, x4, h1, h2, h3, x5, h4, t⟩
theorem c_EEEEAAAEAEA {α1 α2 α3 α4 α5 α6 : Type} {A1 : α1 → α2 → α3 → α4 → Prop} {A2 : α1 → α2 → α3 → α4 → Prop} {A3 : α1 → α2 → α3 → α4 → Prop} {A4 : α1 → α2 → α3 → α4 → α5 → Prop} {A5 : α1 → α2 → α3 → α4 → α5 → α6 → Prop} {T : α1 → α2 → α3 → α4 → α5 → α6 → Prop} (x1 : α1) (x2 : α2) (x3 : α3) (x4 : α4) (h1 : A1 x1 x2 x3 x4) (h2 : A2 x1 x2 x3 x4) (h3 : A3 x1 x2 x3 x4) (x5 : α5) (h4 : A4 x1 x2 x3 x4 x5) (x6 : α6) (h5 : A5 x1 x2 x3 x4 x5 x6) (t : T x1 x2 x3 x4 x5 x6) : ∃ x1, ∃ x2, ∃ x3, ∃ x4, A1 x1 x2 x3 x4 ∧ A2 x1 x2 x3 x4 ∧ A3 x1 x2 x3 x4 ∧ ∃ x5, A4 x1 x2 x3 x4 x5 ∧ ∃ x6, A5 x1 x2 x3 x4 x5 x6 ∧ T x1 x2 x3 x4 x5 x6 := ⟨x1, x2, x3, x4, h1, h2, h3, x5, h4, x6, h5, t⟩
theorem c_EEEEEAAAAA {α1 α2 α3 α4 α5 : Type} {A1 : α1 → α2 → α3 → α4 → α5 → Prop} {A2 : α1 → α2 → α3 → α4 → α5 → Prop} {A3 : α1 → α2 → α3 → α4 → α5 → Prop} {A4 : α1 → α2 → α3 → α4 → α5 → Prop} {A5 : α1 → α2 → α3 → α4 → α5 → Prop} {T : α1 → α2 → α3 → α4 → α5 → Prop} (x1 : α1) (x2 : α2) (x3 : α3) (x4 : α4) (x5 : α5) (h1 : A1 x1 x2 x3 x4 x5) (h2 : A2 x1 x2 x3 x4 x5) (h3 : A3 x1 x2 x3 x4 x5) (h4 : A4 x1 x2 x3 x4 x5) (h5 : A5 x1 x2 x3 x4 x5) (t : T x1 x2 x3 x4 x5) : ∃ x1, ∃ x2, ∃ x3, ∃ x4, ∃ x5, A1 x1 x2 x3 x4 x5 ∧ A2 x1 x2 x3 x4 x5 ∧ A3 x1 x2 x3 x4 x5 ∧ A4 x1 x2 x3 x4 x5 ∧ A5 x1 x2 x3 x4 x5 ∧ T x1 x2 x3 x4 x5 := ⟨x1, x2, x3, x4, x5, h1, h2, h3, h4, h5, t⟩
theorem c_EEEEEAAAAAAAA {α1 α2 α3 α4 α5 : Type} {A1 : α1 → α2 → α3 → α4 → α5 → Prop} {A2 : α1 → α2 → α3 → α4 → α5 → Prop} {A3 : α1 → α2 → α3 → α4 → α5 → Prop} {A4 : α1 → α2 → α3 → α4 → α5 → Prop} {A5 : α1 → α2 → α3 → α4 → α5 → Prop} {A6 : α1 → α2 → α3 → α4 → α5 → Prop} {A7 : α1 → α2 → α3 → α4 → α5 → Prop} {A8 : α1 → α2 → α3 → α4 → α5 → Prop} {T : α1 → α2 → α3 → α4 → α5 → Prop} (x1 : α1) (x2 : α2) (x3 : α3) (x4 : α4) (x5 : α5) (h1 : A1 x1 x2 x3 x4 x5) (h2 : A2 x1 x2 x3 x4 x5) (h3 : A3 x1 x2 x3 x4 x5) (h4 : A4 x1 x2 x3 x4 x5) (h5 : A5 x1 x2 x3 x4 x5) (h6 : A6 x1 x2 x3 x4 x5) (h7 : A7 x1 x2 x3 x4 x5) (h8 : A8 x1 x2 x3 x4 x5) (t : T x1 x2 x3 x4 x5) : ∃ x1, ∃ x2, ∃ x3, ∃ x4, ∃ x5, A1 x1 x2 x3 x4 x5 ∧ A2 x1 x2 x3 x4 x5 ∧ A3 x1 x2 x3 x4 x5 ∧ A4 x1 x2 x3 x4 x5 ∧ A5 x1 x2 x3 x4 x5 ∧ A6 x1 x2 x3 x4 x5 ∧ A7 x1 x2 x3 x4 x5 ∧ A8 x1 x2 x3 x4 x5 ∧ T x1 x2 x3 x4 x5 := ⟨x1, x2, x3, x4, x5, h1, h2, h3, h4, h5, h6, h7, h8, t⟩
theorem c_EEEEEAAAAAEA {α1 α2 α3 α4 α5 α6 : Type} {A1 : α1 → α2 → α3 → α4 → α5 → Prop} {A2 : α1 → α2 → α3 → α4 → α5 → Prop} {A3 : α1 → α2 → α3 → α4 → α5 → Prop} {A4 : α1 → α2 → α3 → α4 → α5 → Prop} {A5 : α1 → α2 → α3 → α4 → α5 → Prop} {A6 : α1 → α2 → α3 → α4 → α5 → α6 → Prop} {T : α1 → α2 → α3 → α4 → α5 → α6 → Prop} (x1 : α1) (x2 : α2) (x3 : α3) (x4 : α4) (x5 : α5) (h1 : A1 x1 x2 x3 x4 x5) (h2 : A2 x1 x2 x3 x4 x5) (h3 : A3 x1 x2 x3 x4 x5) (h4 : A4 x1 x2 x3 x4 x5) (h5 : A5 x1 x2 x3 x4 x5) (x6 : α6) (h6 : A6 x1 x2 x3 x4 x5 x6) (t : T x1 x2 x3 x4 x5 x6) : ∃ x1, ∃ x2, ∃ x3, ∃ x4, ∃ x5, A1 x1 x2 x3 x4 x5 ∧ A2 x1 x2 x3 x4 x5 ∧ A3 x1 x2 x3 x4 x5 ∧ A4 x1 x2 x3 x4 x5 ∧ A5 x1 x2 x3 x4 x5 ∧ ∃ x6, A6 x1 x2 x3 x4 x5 x6 ∧ T x1 x2 x3 x4 x5 x6 := ⟨x1, x2, x3, x4, x5, h1, h2, h3, h4, h5, x6, h6, t⟩
theorem c_EEEEEEEAAAA {α1 α2 α3 α4 α5 α6 α7 : Type} {A1 : α1 → α2 → α3 → α4 → α5 → α6 → α7 → Prop} {A2 : α1 → α2 → α3 → α4 → α5 → α6 → α7 → Prop} {A3 : α1 → α2 → α3 → α4 → α5 → α6 → α7 → Prop} {A4 : α1 → α2 → α3 → α4 → α5 → α6 → α7 → Prop} {T : α1 → α2 → α3 → α4 → α5 → α6 → α7 → Prop} (x1 : α1) (x2 : α2) (x3 : α3) (x4 : α4) (x5 : α5) (x6 : α6) (x7 : α7) (h1 : A1 x1 x2 x3 x4 x5 x6 x7) (h2 : A2 x1 x2 x3 x4 x5 x6 x7) (h3 : A3 x1 x2 x3 x4 x5 x6 x7) (h4 : A4 x1 x2 x3 x4 x5 x6 x7) (t : T x1 x2 x3 x4 x5 x6 x7) : ∃ x1, ∃ x2, ∃ x3, ∃ x4, ∃ x5, ∃ x6, ∃ x7, A1 x1 x2 x3 x4 x5 x6 x7 ∧ A2 x1 x2 x3 x4 x5 x6 x7 ∧ A3 x1 x2 x3 x4 x5 x6 x7 ∧ A4 x1 x2 x3 x4 x5 x6 x7 ∧ T x1 x2 x3 x4 x5 x6 x7 := ⟨x1, x2, x3, x4, x5, x6, x7, h1, h2, h3, h4, t⟩
theorem c_EEEEEEEEEAA {α1 α2 α3 α4 α5 α6 α7 α8 α9 : Type} {A1 : α1 → α2 → α3 → α4 → α5 → α6 → α7 → α8 → α9 → Prop} {A2 : α1 → α2 → α3 → α4 → α5 → α6 → α7 → α8 → α9 → Prop} {T : α1 → α2 → α3 → α4 → α5 → α6 → α7 → α8 → α9 → Prop} (x1 : α1) (x2 : α2) (x3 : α3) (x4 : α4) (x5 : α5) (x6 : α6) (x7 : α7) (x8 : α8) (x9 : α9) (h1 : A1 x1 x2 x3 x4 x5 x6 x7 x8 x9) (h2 : A2 x1 x2 x3 x4 x5 x6 x7 x8 x9) (t : T x1 x2 x3 x4 x5 x6 x7 x8 x9) : ∃ x1, ∃ x2, ∃ x3, ∃ x4, ∃ x5, ∃ x6, ∃ x7, ∃ x8, ∃ x9, A1 x1 x2 x3 x4 x5 x6 x7 x8 x9 ∧ A2 x1 x2 x3 x4 x5 x6 x7 x8 x9 ∧ T x1 x2 x3 x4 x5 x6 x7 x8 x9 := ⟨x1, x2, x3, x4, x5, x6, x7, x8, x9, h1, h2, t⟩
/-! THE HAND LAYER, for ints, bools, texts, own classes, LISTS and tuples (index, slices, in, append, pop ..), calls, loops. Paste it whole ahead of your own text; what your proof does not reach may be deleted. -/
namespace L2
open PySem PySem.Spec PyProof.Rows

/-- a key: an int or a str -/
abbrev Key := Sum Int Str
def keyIs : Key → Value → Bool
  | .inl k, v => Value.isInt k v
  | .inr x, v => Value.isStrOf x v
def keyH (w : World) : Key → Int
  | .inl k => hashInt k
  | .inr x => hashStr w x
theorem keyIs_shape : ∀ {k : Key} {v : Value}, keyIs k v = true → (∃ i t, k = Sum.inl i ∧ v = Value.int i t) ∨ (∃ x t, k = Sum.inr x ∧ v = Value.str x t)
  | .inl i, v, h => by
    obtain ⟨t, e⟩ := Value.isInt_shape (k := i) (v := v) h
    exact .inl (c_EEA i t rfl e)
  | .inr x, v, h => by
    obtain ⟨t, e⟩ := Value.isStrOf_shape (x := x) (v := v) h
    exact .inr (c_EEA x t rfl e)
theorem key_ll (a b : Int) : decide ((Sum.inl a : Key) = Sum.inl b) = (a == b) := by
  by_cases e : a = b
  · subst e; simp
  · have h : ¬ (Sum.inl a : Key) = Sum.inl b := fun q => e (Sum.inl.inj q)
    rw [decide_eq_false h]
    exact (beq_eq_false_iff_ne.mpr e).symm
theorem key_rr (a b : Str) : decide ((Sum.inr a : Key) = Sum.inr b) = decide (a = b) := by
  by_cases e : a = b
  · subst e; simp
  · have h : ¬ (Sum.inr a : Key) = Sum.inr b := fun q => e (Sum.inr.inj q)
    rw [decide_eq_false h, decide_eq_false e]
theorem key_lr (a : Int) (b : Str) : decide ((Sum.inl a : Key) = Sum.inr b) = false := decide_eq_false (fun q => nomatch q)
theorem key_rl (a : Str) (b : Int) : decide ((Sum.inr a : Key) = Sum.inl b) = false := decide_eq_false (fun q => nomatch q)

def mixKind (prog : Program) (w : World) : PySem.KeyKind prog w Key where
  is := keyIs
  hash := keyH w
  inj := fun v a b ha hb => by
    rcases keyIs_shape ha with ⟨i, t, rfl, rfl⟩ | ⟨x, t, rfl, rfl⟩
    · rcases keyIs_shape hb with ⟨j, u, rfl, e⟩ | ⟨y, u, rfl, e⟩
      · injection e with e1 _; rw [e1]
      · exact nomatch e
    · rcases keyIs_shape hb with ⟨j, u, rfl, e⟩ | ⟨y, u, rfl, e⟩
      · exact nomatch e
      · injection e with e1 _; rw [e1]
  byValue := fun k v h => by
    rcases keyIs_shape h with ⟨i, t, rfl, rfl⟩ | ⟨x, t, rfl, rfl⟩ <;> rfl
  pyHash := fun hv h => by
    rcases keyIs_shape hv with ⟨i, t, rfl, rfl⟩ | ⟨x, t, rfl, rfl⟩
    · exact wpAny_pyHash_int h
    · exact wpAny_pyHash_str h
  eqBool := fun hu hv h => by
    rcases keyIs_shape hu with ⟨i, t, rfl, rfl⟩ | ⟨x, t, rfl, rfl⟩
    · rcases keyIs_shape hv with ⟨j, u, rfl, rfl⟩ | ⟨y, u, rfl, rfl⟩
      · rw [key_ll] at h; exact wpAny_eqBool_int h
      · rw [key_lr] at h; exact SeqAt.EqAt.int_str i t y u _ _ _ _ h
    · rcases keyIs_shape hv with ⟨j, u, rfl, rfl⟩ | ⟨y, u, rfl, rfl⟩
      · rw [key_rl] at h; exact SeqAt.EqAt.str_int x t j u _ _ _ _ h
      · rw [key_rr] at h; exact wpAny_eqBool_str h
  «strs» := fun k x t v h => by
    rcases keyIs_shape h with ⟨i, u, rfl, e⟩ | ⟨y, u, rfl, e⟩
    · exact nomatch e
    · injection e with e1 _
      subst e1
      cases v <;> rfl

end L2

namespace L2
open PySem PySem.Spec PyProof.Rows

/-- a value, without the heap -/
inductive V where
  | non | bl (b : Bool) | int (i : Int) | str (x : Str) | byt (b : Array UInt8) | flt (b : UInt64) | ref (a : Addr) | ty (n : String)
  deriving DecidableEq

def RelV : V → Value → Prop
  | .non, u => u = Value.none
  | .bl b, u => u = Value.bool b
  | .int i, u => ∃ t, u = Value.int i t
  | .str x, u => ∃ t, u = Value.str x t
  | .byt b, u => ∃ t, u = Value.bytes b t
  | .flt b, u => ∃ t, u = Value.float b t
  | .ref a, u => u = Value.ref a
  | .ty n, u => u = Value.type n

abbrev Vals : List V → List Value → Prop := Paired RelV
theorem Vals.length {xs : List V} {us : List Value} (r : Vals xs us) : xs.length = us.length := Paired.length r
theorem Vals.get : ∀ {xs : List V} {us : List Value} {i : Nat} {x : V}, Vals xs us → xs[i]? = some x → ∃ u, us[i]? = some u ∧ RelV x u
  | _, _, _, _, .nil, e => by simp at e
  | _, _, 0, _, .cons r _, e => by simp at e; subst e; exact (c_EA _ rfl r)
  | _, _, i + 1, x, .cons _ t, e => by
    obtain ⟨u, h1, h2⟩ := Vals.get (i := i) (x := x) t (by simpa using e)
    exact (c_EA u (by simpa using h1) h2)
theorem Vals.append : ∀ {xs ys : List V} {us ws : List Value}, Vals xs us → Vals ys ws → Vals (xs ++ ys) (us ++ ws)
  | _, _, _, _, .nil, s => s
  | _, _, _, _, .cons r t, s => .cons r (Vals.append t s)
theorem Vals.take : ∀ {xs : List V} {us : List Value} (n : Nat), Vals xs us → Vals (xs.take n) (us.take n)
  | _, _, 0, _ => .nil
  | _, _, _ + 1, .nil => .nil
  | _, _, n + 1, .cons r t => .cons r (Vals.take n t)
theorem Vals.drop : ∀ {xs : List V} {us : List Value} (n : Nat), Vals xs us → Vals (xs.drop n) (us.drop n)
  | _, _, 0, r => r
  | _, _, _ + 1, .nil => .nil
  | _, _, n + 1, .cons _ t => Vals.drop n t

def RelO : Option V → Option Value → Prop
  | some v, some u => RelV v u
  | none, none => True
  | _, _ => False
def KV {κ : Type} : List (κ × V) → List (κ × Value) → Prop := Paired fun (p : κ × V) (q : κ × Value) => p.1 = q.1 ∧ RelV p.2 q.2

/-- a key of a dict (00_mix): an int or a text -/
def kV : Key → V
  | .inl i => .int i
  | .inr x => .str x

/-- what stands at a tracked address -/
inductive HO where
  /-- a list -/
  | lst (xs : List V)
  /-- a tuple (never changes) -/
  | tup (xs : List V)
  /-- a dict whose keys are ints and texts; one whose keys are tuples of ints and texts (the empty one is both) -/
  | dK (kvs : List (Key × V)) | dT (kvs : List (List Key × V))
  /-- a set of ints: its members, its size -/
  | set (S : Int → Bool) (n : Nat)
  /-- an instance of the class at C, its dict at dx, its attributes -/
  | ins (C dx : Addr) (fs : List (Str × V))
  /-- the dict of the instance at x -/
  | own (x : Addr)
  /-- the dict of an exception -/
  | xd (fs : List (Str × V))
  /-- a bound method, f of x -/
  | met (f x : Addr)
  /-- a range object lo, lo + 1, .. below hi -/
  | rng (lo hi : Int)
  /-- a thing that is known to the object (the script; a dict while a loop walks it): read, never written while it is so -/
  | frz (o : Obj) (u : HO)
  /-- a code object's table -/
  | tbl (ps : Array Value)
  /-- any other thing, by what is true of its one object (a def of one's own: SetO a S n := HO.ext fun h => ..) -/
  | ext (φ : Heap → Prop)

abbrev Hp := Addr → Option HO
def upd (H : Hp) (a : Addr) (o : HO) : Hp := fun b => if b = a then some o else H b
theorem upd_same {H : Hp} {a : Addr} {o : HO} : upd H a o a = some o := by unfold upd; rw [if_pos rfl]
theorem upd_ne {H : Hp} {a b : Addr} {o : HO} (h : b ≠ a) : upd H a o b = H b := by unfold upd; rw [if_neg h]
theorem ne_of_none {H : Hp} {a b : Addr} {o : HO} (h : H a = some o) (h' : H b = none) : a ≠ b := by
  intro e; subst e; rw [h] at h'; cases h'

section
variable (P : Program) (w : World)
def ObjOk (H : Hp) (h : Heap) (a : Addr) : HO → Prop
  | .lst xs => xs.length ≤ sizeLine ∧ ∃ (its : List Value) (n : Nat), Vals xs its ∧ h.get? a = some { cls := .type "list", data := .seq its.toArray n }
  | .tup xs => xs.length ≤ sizeLine ∧ ∃ its : List Value, Vals xs its ∧ IsTup h a its.toArray
  | .dK kvs => kvs.length ≤ sizeLine ∧ (a == sysModules) = false ∧ ∃ vs, KV kvs vs ∧ h.DictOf (mixKind P w) a vs
  | .dT kvs => kvs.length ≤ sizeLine ∧ (a == sysModules) = false ∧ ∃ xs : List (List Key × Addr × Value),
      Paired (fun (p : List Key × V) (q : List Key × Addr × Value) => p.1 = q.1 ∧ H q.2.1 = some (.tup (p.1.map kV)) ∧ RelV p.2 q.2.2) kvs xs ∧
      ∃ o es ep, h.get? a = some o ∧ o.ExactDict ∧ o.data = .dict es ep ∧ es.toList = xs.map (entryOfKey (tupleKind (mixKind P w))) ∧ (xs.map (·.1)).Nodup
  | .set S n => h.SetOf (intKind P w) a S n
  | .ins C dx fs => H dx = some (.own a) ∧ fs.length ≤ 1000 ∧ dx ≠ a ∧ h.get? a = some (PySem.W.instObj C dx) ∧
      ∃ mA, h.Ns1 dx mA ∧ (∀ f, RelO (fs.lookup f) (mA f)) ∧ PySem.Within mA (fs.map (·.1))
  | .own _ => ∃ o, h.get? a = some o
  | .xd fs => ∃ mA, h.Ns1 a mA ∧ ∀ f, RelO (fs.lookup f) (mA f)
  | .rng lo hi => ∃ t u v, h.get? a = some { cls := .type "range", data := .fields #[.int lo t, .int hi u, .int 1 v] }
  | .frz o u => h.get? a = some o ∧ ObjOk H h a u
  | .tbl ps => h.get? a = some { cls := .none, data := .fields ps }
  | .met f x => h.get? a = some (PySem.W.methodObj (.ref f) (.ref x))
  | .ext φ => φ h ∧ (∃ o, h.get? a = some o) ∧ ∀ h1 h2 : Heap, φ h1 → (∀ o, h1.get? a = some o → h2.get? a = some o) → φ h2
/-- the abstract heap is held -/
def HOk (H : Hp) (h : Heap) : Prop := ∀ a o, H a = some o → ObjOk P w H h a o
end

section
variable {P : Program} {w : World} {H H' : Hp} {h h' : Heap} {a : Addr} {o : HO}
theorem ObjOk.lt (x : ObjOk P w H h a o) : a < h.objs.size := by
  cases o with
  | lst xs => obtain ⟨_, _, _, _, e⟩ := x; exact Heap.lt_size e
  | tup xs => obtain ⟨_, _, _, p⟩ := x; exact p.lt
  | dK kvs => obtain ⟨_, _, _, _, o, _, _, e, _⟩ := x; exact Heap.lt_size e
  | dT kvs => obtain ⟨_, _, _, _, o, _, _, e, _⟩ := x; exact Heap.lt_size e
  | set S n => obtain ⟨o, _, _, _, e, _⟩ := x; exact Heap.lt_size e
  | ins C dx fs => obtain ⟨_, _, _, e, _⟩ := x; exact Heap.lt_size e
  | own y => obtain ⟨_, e⟩ := x; exact Heap.lt_size e
  | xd fs => obtain ⟨_, ⟨_, _, _, e, _⟩, _⟩ := x; exact Heap.lt_size e
  | rng lo hi => obtain ⟨_, _, _, e⟩ := x; exact Heap.lt_size e
  | frz ob u => obtain ⟨e, _⟩ := x; exact Heap.lt_size e
  | tbl ps => exact Heap.lt_size (show h.get? a = some _ from x)
  | met f y => exact Heap.lt_size (show h.get? a = some _ from x)
  | ext φ => obtain ⟨_, ⟨_, e⟩, _⟩ := x; exact Heap.lt_size e
theorem Paired.mapP {α β : Type} {F G : α → β → Prop} : ∀ {l₁ : List α} {l₂ : List β}, Paired F l₁ l₂ → (∀ a b, F a b → G a b) → Paired G l₁ l₂
  | _, _, .nil, _ => .nil
  | _, _, .cons r t, f => .cons (f _ _ r) (Paired.mapP t f)
/-- what an object's description leans on: its own object, its own dict, the tuples -/
theorem ObjOk.stay (x : ObjOk P w H h a o) (k : ∀ b u, (b = a ∨ H b = some (.own a)) → h.get? b = some u → h'.get? b = some u)
    (ho : ∀ b, H b = some (.own a) → H' b = some (.own a)) (ht : ∀ b xs, H b = some (.tup xs) → H' b = some (.tup xs)) : ObjOk P w H' h' a o := by
  induction o with
  | lst xs => obtain ⟨z, its, n, r, e⟩ := x; exact (c_AEEA z its n r (k _ _ (.inl rfl) e))
  | tup xs => obtain ⟨z, its, r, ob, e, c⟩ := x; exact (c_AEA z its r (c_EA ob (k _ _ (.inl rfl) e) c))
  | dK kvs => obtain ⟨z, y, vs, r, ob, es, ep, e, c⟩ := x; exact (c_AAEA z y vs r (c_EEEA ob es ep (k _ _ (.inl rfl) e) c))
  | dT kvs =>
    obtain ⟨z, y, xs, r, ob, es, ep, e, c⟩ := x
    exact (c_AAEAEEEA z y xs (Paired.mapP r fun p q z => (c_AA z.1 (ht _ _ z.2.1) z.2.2)) ob es ep (k _ _ (.inl rfl) e) c)
  | set S n => obtain ⟨ob, es, ep, t, e, c⟩ := x; exact (c_EEEEA ob es ep t (k _ _ (.inl rfl) e) c)
  | ins C dx fs =>
    obtain ⟨d, z, ne, e, mA, ⟨od, es, ep, e2, c⟩, r⟩ := x
    exact (c_AAAAEA (ho _ d) z ne (k _ _ (.inl rfl) e) mA (c_EEEA od es ep (k _ _ (.inr d) e2) c) r)
  | own y => obtain ⟨ob, e⟩ := x; exact ⟨ob, k _ _ (.inl rfl) e⟩
  | xd fs => obtain ⟨mA, ⟨od, es, ep, e, c⟩, r⟩ := x; exact (c_EA mA (c_EEEA od es ep (k _ _ (.inl rfl) e) c) r)
  | rng lo hi => obtain ⟨t, u, v, e⟩ := x; exact (c_EEE t u v (k _ _ (.inl rfl) e))
  | frz ob u ih => obtain ⟨e, q⟩ := x; exact ⟨k _ _ (.inl rfl) e, ih q⟩
  | tbl ps =>
    have e : h.get? a = some { cls := .none, data := .fields ps } := x
    show h'.get? a = some { cls := .none, data := .fields ps }
    exact k a _ (.inl rfl) e
  | met f y =>
    have e : h.get? a = some (PySem.W.methodObj (.ref f) (.ref y)) := x
    show h'.get? a = some (PySem.W.methodObj (.ref f) (.ref y))
    exact k a _ (.inl rfl) e
  | ext φ => obtain ⟨p, ⟨o, e⟩, st⟩ := x; exact (c_AA (st _ _ p fun o q => k _ _ (.inl rfl) q) ⟨o, k _ _ (.inl rfl) e⟩ st)
theorem HOk.lt (x : HOk P w H h) (e : H a = some o) : a < h.objs.size := (x a o e).lt
theorem HOk.fresh (x : HOk P w H h) (e : h.objs.size ≤ a) : H a = none := by
  cases q : H a with
  | none => rfl
  | some u => exact absurd (Nat.lt_of_lt_of_le (x.lt q) e) (Nat.lt_irrefl _)
/-- every object of the heap is kept -/
theorem HOk.kept (x : HOk P w H h) (k : ∀ b u, h.get? b = some u → h'.get? b = some u) : HOk P w H h' := fun a o e =>
  (x a o e).stay (fun b u _ q => k b u q) (fun _ q => q) fun _ _ q => q
/-- a new object is laid and tracked -/
theorem HOk.laid (x : HOk P w H h) (k : ∀ b u, h.get? b = some u → h'.get? b = some u) (hp : h.objs.size ≤ a) (new : ObjOk P w (upd H a o) h' a o) : HOk P w (upd H a o) h' := fun b u e => by
  have hn := x.fresh hp
  by_cases hb : b = a
  · subst hb; rw [upd_same] at e; cases e; exact new
  · rw [upd_ne hb] at e
    exact (x b u e).stay (fun c v _ q => k c v q) (fun c q => by rw [upd_ne (ne_of_none q hn)]; exact q) fun c xs q => by rw [upd_ne (ne_of_none q hn)]; exact q
end

/-- what may be read as u: it is u, or a known u -/
def Rd (H : Hp) (a : Addr) (u : HO) : Prop := H a = some u ∨ ∃ o, H a = some (.frz o u)
theorem Rd.ok {P : Program} {w : World} {H : Hp} {h : Heap} {a : Addr} {u : HO} (r : Rd H a u) (x : HOk P w H h) : ObjOk P w H h a u := by
  rcases r with r | ⟨o, r⟩
  · exact x a u r
  · obtain ⟨_, q⟩ := x a _ r
    exact q
/-- what may be written -/
def Mut : Option HO → Prop
  | some (.lst _) => True
  | some (.dK _) => True
  | some (.dT _) => True
  | some (.set _ _) => True
  | some (.ins _ _ _) => True
  | some (.ext _) => True
  | _ => False
section
variable {P : Program} {w : World} {H : Hp} {h h' : Heap} {x e : Addr} {o' : HO}
/-- the object at e is changed: x itself, or the dict of the instance x -/
theorem HOk.write (ok : HOk P w H h) (mu : Mut (H x)) (he : e = x ∨ H e = some (.own x)) (k : ∀ b u, b ≠ e → h.get? b = some u → h'.get? b = some u) (heo : ∃ u, h'.get? e = some u)
    (new : ObjOk P w (upd H x o') h' x o') : HOk P w (upd H x o') h' := fun b u q => by
  have nown : ∀ c y, H c = some (.own y) → c ≠ x := fun c y r z => by subst z; rw [r] at mu; exact mu
  have ntup : ∀ c xs, H c = some (.tup xs) → c ≠ x := fun c xs r z => by subst z; rw [r] at mu; exact mu
  by_cases hb : b = x
  · subst hb; rw [upd_same] at q; cases q; exact new
  · rw [upd_ne hb] at q
    by_cases hbe : b = e
    · have q' : H b = some (.own x) := by
        rcases he with z | z
        · exact absurd (hbe.trans z) hb
        · rw [hbe]; exact z
      rw [q] at q'; cases q'
      obtain ⟨v, hv⟩ := heo
      exact ⟨v, by rw [hbe]; exact hv⟩
    · refine (ok b u q).stay (fun c v hc r => k c v ?_ r) (fun c r => by rw [upd_ne (nown c b r)]; exact r) fun c xs r => by rw [upd_ne (ntup c xs r)]; exact r
      rcases hc with rfl | hc
      · exact hbe
      · rintro rfl
        rcases he with z | z
        · exact nown c b hc z
        · rw [hc] at z; cases z; exact hb rfl
end

/-! ### kept unless tracked; of the frames at fs (the callers') the slots may change (an exception that passes writes there); of the records at ex (iterators) nothing is said -/
structure Un (fs ex : List Addr) (H H' : Hp) (h h' : Heap) : Prop where
  keep : ∀ b o, h.get? b = some o → H b = none → b ∉ fs → b ∉ ex → h'.get? b = some o
  slot : ∀ b o, h.get? b = some o → H b = none → b ∈ fs → b ∉ ex → ∃ sl, h'.get? b = some { o with slots := sl }
  free : ∀ b o, h.get? b = some o → H b = none → b ∉ ex → H' b = none
  there : ∀ b o, h.get? b = some o → b ∉ ex → ∃ o', h'.get? b = some o'
  tups : ∀ b xs, H b = some (.tup xs) → H' b = some (.tup xs)
  frzs : ∀ b o u, H b = some (.frz o u) → H' b = some (.frz o u)
  tbls : ∀ b ps, H b = some (.tbl ps) → ∃ more, H' b = some (.tbl (ps ++ more))
section
variable {fs fs' ex ex' : List Addr} {H H1 H2 : Hp} {h h1 h2 h' : Heap} {a x e : Addr} {o : HO}
theorem Un.any (u : Un fs ex H H1 h h1) {b : Addr} {ob : Obj} (q : h.get? b = some ob) (n : H b = none) (hx : b ∉ ex) : ∃ sl, h1.get? b = some { ob with slots := sl } := by
  by_cases hb : b ∈ fs
  · exact u.slot b ob q n hb hx
  · exact ⟨ob.slots, u.keep b ob q n hb hx⟩
theorem Un.kept (k : ∀ b u, h.get? b = some u → h'.get? b = some u) : Un fs ex H H h h' :=
  ⟨fun b ob q _ _ _ => k b ob q, fun b ob q _ _ _ => ⟨ob.slots, k b ob q⟩, fun _ _ _ n _ => n, fun b ob q _ => ⟨ob, k b ob q⟩, fun _ _ q => q, fun _ _ _ q => q, fun _ ps q => ⟨#[], by rw [q]; simp⟩⟩
theorem Un.refl : Un fs ex H H h h := Un.kept fun _ _ q => q
theorem Un.laid (k : ∀ b u, h.get? b = some u → h'.get? b = some u) (hp : h.objs.size ≤ a) (hn : H a = none) : Un fs ex H (upd H a o) h h' where
  keep := fun b u q _ _ _ => k b u q
  slot := fun b u q _ _ _ => ⟨u.slots, k b u q⟩
  free := fun b u q n _ => by rw [upd_ne (Nat.ne_of_lt (Nat.lt_of_lt_of_le (Heap.lt_size q) hp))]; exact n
  there := fun b u q _ => ⟨u, k b u q⟩
  tups := fun b xs q => by rw [upd_ne (ne_of_none q hn)]; exact q
  frzs := fun b u xs q => by rw [upd_ne (ne_of_none q hn)]; exact q
  tbls := fun b ps q => ⟨#[], by rw [upd_ne (ne_of_none q hn), q]; simp⟩
theorem Un.write (mu : Mut (H x)) (he : e = x ∨ H e = some (.own x)) (k : ∀ b u, b ≠ e → h.get? b = some u → h'.get? b = some u) (heo : ∃ u, h'.get? e = some u) : Un fs ex H (upd H x o) h h' := by
  have hx : ∀ b, H b = none → b ≠ x := fun b n z => by subst z; rw [n] at mu; exact mu
  have hb : ∀ b, H b = none → b ≠ e := fun b n z => by
    subst z
    rcases he with r | r
    · exact hx b n r
    · rw [n] at r; cases r
  have hm : ∀ b u, H b = some u → ¬ Mut (some u) → b ≠ x := fun b u q nm z => by subst z; rw [q] at mu; exact nm mu
  refine ⟨fun b u q n _ _ => k b u (hb b n) q, fun b u q n _ _ => ⟨u.slots, k b u (hb b n) q⟩, fun b u q n _ => by rw [upd_ne (hx b n)]; exact n, fun b u q _ => ?_, fun b xs q => by rw [upd_ne (hm b _ q fun z => z)]; exact q, fun b u xs q => by rw [upd_ne (hm b _ q fun z => z)]; exact q, fun b ps q => ⟨#[], by rw [upd_ne (hm b _ q fun z => z), q]; simp⟩⟩
  by_cases hbe : b = e
  · subst hbe; exact heo
  · exact ⟨u, k b u hbe q⟩
end

/-! ### the heap without what is tracked -/
def trk (h : Heap) (H : Hp) : List Addr := (List.range h.objs.size).filter fun a => (H a).isSome
def hidT (h : Heap) (H : Hp) : Heap := PySem.W.hideAll h (trk h H)
theorem hidT_size (h : Heap) (H : Hp) : (hidT h H).objs.size = h.objs.size := PySem.W.hideAll_size _ _
theorem hidT_get {h : Heap} {H : Hp} {b : Addr} {o : Obj} (e : h.get? b = some o) (n : H b = none) : (hidT h H).get? b = some o :=
  PySem.W.hideAll_get _ e fun hm => by
    have q : (H b).isSome = true := (List.mem_filter.mp hm).2
    rw [n] at q; simp at q
theorem of_hidT {h : Heap} {H : Hp} {b : Addr} {o : Obj} (e : (hidT h H).get? b = some o) : h.get? b = some o ∧ H b = none := by
  have e' : h.get? b = some o := PySem.W.of_hideAll (trk h H) e
  refine ⟨e', ?_⟩
  cases q : H b with
  | none => rfl
  | some x =>
    have hm : b ∈ trk h H := List.mem_filter.mpr ⟨List.mem_range.mpr (Heap.lt_size e'), by simp [q]⟩
    have z : (hidT h H).get? b = none := PySem.W.hideAll_none (trk h H) hm
    rw [z] at e; cases e

/-! ### OpenK's ledger, filled with every new object but one -/
def allNews (g h : Heap) (L : Addr) : List (Addr × Obj) := (List.range h.objs.size).filterMap fun a => if a = L ∨ (g.get? a).isSome = true then none else (h.get? a).map fun o => (a, o)
def rest (g h : Heap) (L d : Addr) : List (Addr × Obj) := (allNews g h L).filter fun p => decide (p.1 ≠ d)
end L2

namespace L2
open PySem PySem.Spec PyProof.Rows

/-- the module's facts, over the base: the heap at the law's entry without what is tracked there -/
structure Mod (K : PySem.W.Frag) (mg : Str → Option Value) (base : Heap) : Prop where
  kin : K.In base
  glob : base.Ns mainGlobals mg
  blt : ∃ mb, base.Ns builtinsNs mb ∧ ∀ x : Str, x ≠ "__name__" → mb x = bootBuiltins x
  nolimit : base.NoLimit

/-- the context: a def's body (or a comprehension's block) running. base: fixed through the whole law; s₀, H₀: the entry; outer: the frames whose slots others may change (a def's callers); stack: all frames that run;
   ex: iterators that were made ahead of the entry and are walked here (a comprehension's); fn: the names whose cells were made at the entry (a def: all; a comprehension's block: its own); calm: not within an except suite; pn: pins that every state bears; xe: what is wanted of an exception that leaves the code -/
structure Cx where
  prog : Program
  w : World
  K : PySem.W.Frag
  mg : Str → Option Value
  base : Heap
  A : Around
  N : List Str
  s₀ : Shared
  H₀ : Hp
  env : Env
  outer : List Env
  stack : List Env
  ex : List Addr
  fn : Str → Bool
  calm : Bool
  pn : List (Addr × Obj)
  xe : Value → Shared → Prop
/-- the callers' frames -/
def frs (l : List Env) : List Addr := l.filterMap (·.frame)
abbrev Cx.fs (X : Cx) : List Addr := frs X.outer

def Vis (sc : Scope) (x : Str) : Prop := sc.names.lookup x = some .local ∨ sc.names.lookup x = some .cell ∨ sc.names.lookup x = some .free
def Loc (sc : Scope) (x : Str) : Prop := sc.names.lookup x = some .local ∨ sc.names.lookup x = some .cell
def Look (env : Env) (h : Heap) (m : Str → Option Value) (x : Str) (u : Value) : Prop :=
  (env.kindOf x = some .local ∧ m x = some u) ∨ ((env.kindOf x = some .cell ∨ env.kindOf x = some .free) ∧ ∃ c, env.cells.lookup x = some c ∧ h.IsCell c (some u))

structure Cx.Ok (X : Cx) : Prop where
  mod : Mod X.K X.mg X.base
  kind : X.env.scope.kind = .function
  glob : X.env.globals = mainGlobals
  blt : X.env.builtins = builtinsNs
  above : X.s₀.heap.objs.size ≤ X.env.locals
  inj : ∀ x y c, X.env.cells.lookup x = some c → X.env.cells.lookup y = some c → x = y
  has : ∀ x, (X.env.kindOf x = some .cell ∨ X.env.kindOf x = some .free) → ∃ c, X.env.cells.lookup x = some c
  cab : ∀ x c, X.fn x = true → X.env.cells.lookup x = some c → X.s₀.heap.objs.size ≤ c
  hd : X.calm = true → X.A.handled = none
  frames : X.A.frames = some X.stack
  stk : X.stack = X.outer ∨ (X.stack = X.env :: X.outer ∧ X.env.frame = some X.env.locals)
  exf : ∀ b ∈ X.ex, b ≠ X.env.locals ∧ ∀ x c, X.env.cells.lookup x = some c → c ≠ b
  bs : ∀ b o, X.base.get? b = some o → X.s₀.heap.get? b = some o ∧ X.H₀ b = none
  bsz : X.base.objs.size ≤ X.s₀.heap.objs.size
  noex : ∀ b o, X.base.get? b = some o → b ∉ X.ex
  exfs : ∀ b ∈ X.ex, b ∉ X.fs
  funs : X.s₀.heap.FunFrames X.base X.outer
  frf : ∀ b ∈ X.fs, X.H₀ b = none

structure Inv (X : Cx) (pins : List (Addr × Obj)) (σ : List (Option V)) (H : Hp) (s : Shared) : Prop where
  ok : X.Ok
  os : s.os = X.s₀.os
  bare : AllBare s.gens
  base : Un X.fs X.ex X.H₀ H X.s₀.heap s.heap
  loc : ∃ m, s.heap.Ns X.env.locals m ∧ ∀ (i : Nat) (x : Str) (v : V), X.N[i]? = some x → σ[i]? = some (some v) → Vis X.env.scope x → ∃ u, RelV v u ∧ Look X.env s.heap m x u
  cell : ∀ x c, X.env.cells.lookup x = some c → ∃ v, s.heap.IsCell c v
  free : H X.env.locals = none
  freeC : ∀ x c, X.env.cells.lookup x = some c → H c = none
  pin : ∀ p ∈ X.pn ++ pins, s.heap.get? p.1 = some p.2 ∧ H p.1 = none ∧ p.1 ≠ X.env.locals ∧ p.1 ∉ X.fs ∧ ∀ v, p.2.data ≠ .cell v
  hok : HOk X.prog X.w H s.heap
  len : σ.length = X.N.length

section
variable {X : Cx} {pins : List (Addr × Obj)} {σ : List (Option V)} {H H' : Hp} {s : Shared} {h' : Heap}

theorem Cx.Ok.nofr (ok : X.Ok) {b : Addr} {o : Obj} (e : X.base.get? b = some o) : b ∉ X.fs := fun hb => by
  have := (ok.funs.mem hb).1
  rw [e] at this; cases this
theorem Inv.bs (I : Inv X pins σ H s) : ∀ b o, X.base.get? b = some o → s.heap.get? b = some o ∧ H b = none := fun b o e =>
  ⟨I.base.keep b o (I.ok.bs b o e).1 (I.ok.bs b o e).2 (I.ok.nofr e) (I.ok.noex b o e), I.base.free b o (I.ok.bs b o e).1 (I.ok.bs b o e).2 (I.ok.noex b o e)⟩
theorem Inv.bk (I : Inv X pins σ H s) : ∀ b o, X.base.get? b = some o → s.heap.get? b = some o := fun b o e => (I.bs b o e).1
theorem Inv.mod (I : Inv X pins σ H s) : Mod X.K X.mg X.base := I.ok.mod
theorem Inv.kIn (I : Inv X pins σ H s) : X.K.In s.heap := I.ok.mod.kin.keeps I.bk
theorem Inv.lt (I : Inv X pins σ H s) : X.env.locals < s.heap.objs.size := let ⟨_, hn, _⟩ := I.loc; hn.lt
theorem Inv.sz (I : Inv X pins σ H s) : X.s₀.heap.objs.size ≤ s.heap.objs.size := Nat.le_trans I.ok.above (Nat.le_of_lt I.lt)
theorem Inv.nofs (I : Inv X pins σ H s) {a : Addr} (h : s.heap.objs.size ≤ a) : a ∉ X.fs := fun hb => by
  obtain ⟨_, o, ho, _⟩ := I.ok.funs.mem hb
  exact absurd (Nat.lt_of_lt_of_le (Heap.lt_size ho) (Nat.le_trans I.sz h)) (Nat.lt_irrefl _)
theorem Inv.cne (I : Inv X pins σ H s) : ∀ x c, X.env.cells.lookup x = some c → c ≠ X.env.locals := fun x c e z => by
  obtain ⟨v, o, ho, hd⟩ := I.cell x c e
  obtain ⟨m, ⟨o', es, ep, ho', hd', _⟩, _⟩ := I.loc
  rw [z, ho'] at ho; cases ho; rw [hd'] at hd; cases hd
theorem Inv.funs (I : Inv X pins σ H s) : s.heap.FunFrames X.base X.outer := by
  have all : ∀ (l : List Env), (∀ b ∈ frs l, b ∈ X.fs) → X.s₀.heap.FunFrames X.base l → s.heap.FunFrames X.base l := by
    intro l
    induction l with
    | nil => intro _ _; trivial
    | cons env r ih =>
      intro hs hl
      obtain ⟨hk, ⟨L, o, hf, hn, ho, hd⟩, hr⟩ := hl
      have hL : L ∈ X.fs := hs L (by unfold frs; rw [List.filterMap_cons, hf]; exact List.mem_cons_self)
      obtain ⟨sl, e⟩ := I.base.slot L o ho (I.ok.frf L hL) hL fun z => I.ok.exfs L z hL
      exact (c_AA hk (c_EEAAA L _ hf hn e hd) (ih (fun b hb => hs b (by unfold frs; rw [List.filterMap_cons, hf]; exact List.mem_cons_of_mem _ hb)) hr))
  exact all X.outer (fun _ hb => hb) I.ok.funs

/-- the frames that run, for a call -/
theorem Inv.stack (I : Inv X pins σ H s) : s.heap.FunFrames X.base X.stack := by
  rcases I.ok.stk with e | ⟨e, hf⟩
  · rw [e]; exact I.funs
  · rw [e]
    obtain ⟨m, hn, _⟩ := I.loc
    refine .cons (by rw [I.ok.kind]; decide) hf hn ?_ I.funs
    exact Heap.get?_none_of_le (Nat.le_trans I.ok.bsz I.ok.above)
theorem Inv.stkSub (I : Inv X pins σ H s) : ∀ b ∈ frs X.stack, b ∈ X.env.locals :: X.fs := fun b hb => by
  rcases I.ok.stk with e | ⟨e, hf⟩
  · rw [e] at hb; exact List.mem_cons_of_mem _ hb
  · rw [e] at hb
    unfold frs at hb
    rw [List.filterMap_cons, hf] at hb
    exact hb
theorem Inv.stkFree (I : Inv X pins σ H s) : ∀ b ∈ frs X.stack, H b = none := fun b hb => by
  rcases List.mem_cons.mp (I.stkSub b hb) with e | hb
  · rw [e]; exact I.free
  · obtain ⟨_, o, ho, _⟩ := I.ok.funs.mem hb
    exact I.base.free b o ho (I.ok.frf b hb) fun z => I.ok.exfs b z hb

/-- THE STEP: the untracked objects but the frame and the records at ch are kept (the callers' frames up to slots), the frame's map is kept, the new abstract heap is held -/
theorem Inv.step {g' : Array GenState} {t' : Nat} {d' : Drawn} {ch : List Addr} (I : Inv X pins σ H s)
    (hch : ∀ b ∈ ch, (b ∈ X.ex ∨ X.s₀.heap.objs.size ≤ b) ∧ b ≠ X.env.locals ∧ (∀ x c, X.env.cells.lookup x = some c → c ≠ b) ∧ ∀ p ∈ X.pn ++ pins, p.1 ≠ b)
    (keep : ∀ b o, b ≠ X.env.locals → b ∉ X.fs → b ∉ ch → s.heap.get? b = some o → H b = none → h'.get? b = some o)
    (slot : ∀ b o, b ≠ X.env.locals → b ∈ X.fs → b ∉ ch → s.heap.get? b = some o → H b = none → ∃ sl, h'.get? b = some { o with slots := sl }) (free : ∀ b o, b ∉ ch → s.heap.get? b = some o → H b = none → H' b = none)
    (there : ∀ b o, b ∉ ch → s.heap.get? b = some o → ∃ o', h'.get? b = some o')
    (tups : ∀ b xs, H b = some (.tup xs) → H' b = some (.tup xs)) (frzs : ∀ b o u, H b = some (.frz o u) → H' b = some (.frz o u)) (tbls : ∀ b ps, H b = some (.tbl ps) → ∃ more, H' b = some (.tbl (ps ++ more)))
    (ns : ∀ m, s.heap.Ns X.env.locals m → h'.Ns X.env.locals m) (hok : HOk X.prog X.w H' h') (hg : AllBare g') :
    Inv X pins σ H' { s with heap := h', gens := g', drawn := d', toks := t' } := by
  have neL : ∀ b o, X.s₀.heap.get? b = some o → b ≠ X.env.locals := fun b o e => Nat.ne_of_lt (Nat.lt_of_lt_of_le (Heap.lt_size e) I.ok.above)
  have neC : ∀ b o, X.s₀.heap.get? b = some o → b ∉ X.ex → b ∉ ch := fun b o e hx hb => by
    rcases (hch b hb).1 with z | z
    · exact hx z
    · exact absurd (Nat.lt_of_lt_of_le (Heap.lt_size e) z) (Nat.lt_irrefl _)
  have cellK : ∀ x c, X.env.cells.lookup x = some c → ∀ v, s.heap.IsCell c v → h'.IsCell c v := fun x c e v ⟨o, ho, hd⟩ => by
    have nch : c ∉ ch := fun z => (hch c z).2.2.1 x c e rfl
    by_cases hc : c ∈ X.fs
    · obtain ⟨sl, q⟩ := slot c o (I.cne x c e) hc nch ho (I.freeC x c e)
      exact (c_EA _ q hd)
    · exact (c_EA o (keep c o (I.cne x c e) hc nch ho (I.freeC x c e)) hd)
  refine ⟨I.ok, I.os, hg, ⟨fun b o e n hb hx => ?_, fun b o e n hb hx => ?_, fun b o e n hx => ?_, fun b o e hx => ?_, fun b xs e => tups b xs (I.base.tups b xs e), fun b o xs e => frzs b o xs (I.base.frzs b o xs e), fun b ps e => ?_⟩, ?_, fun x c e => ?_, ?_, fun x c e => ?_, fun p hp => ?_, hok, I.len⟩
  · exact keep b o (neL b o e) hb (neC b o e hx) (I.base.keep b o e n hb hx) (I.base.free b o e n hx)
  · obtain ⟨sl, e1⟩ := I.base.slot b o e n hb hx
    obtain ⟨sl', e2⟩ := slot b _ (neL b o e) hb (neC b o e hx) e1 (I.base.free b o e n hx)
    exact ⟨sl', e2⟩
  · obtain ⟨o', e1⟩ := I.base.there b o e hx
    exact free b o' (neC b o e hx) e1 (I.base.free b o e n hx)
  · obtain ⟨o', e1⟩ := I.base.there b o e hx
    exact there b o' (neC b o e hx) e1
  · obtain ⟨m1, e1⟩ := I.base.tbls b ps e
    obtain ⟨m2, e2⟩ := tbls b _ e1
    exact ⟨m1 ++ m2, by rw [e2, Array.append_assoc]⟩
  · obtain ⟨m, hn, hl⟩ := I.loc
    refine (c_EA m (ns m hn) (fun i x v e1 e2 e3 => ?_))
    obtain ⟨u, r, l⟩ := hl i x v e1 e2 e3
    refine (c_EA u r ?_)
    rcases l with l | ⟨k, c, e, z⟩
    · exact .inl l
    · exact .inr (c_AEA k c e (cellK x c e _ z))
  · obtain ⟨v, z⟩ := I.cell x c e
    exact ⟨v, cellK x c e v z⟩
  · obtain ⟨m, ⟨o, _, _, ho, _⟩, _⟩ := I.loc
    exact free _ o (fun z => (hch _ z).2.1 rfl) ho I.free
  · obtain ⟨v, o, ho, hd⟩ := I.cell x c e
    exact free c o (fun z => (hch c z).2.2.1 x c e rfl) ho (I.freeC x c e)
  · obtain ⟨e, n, ne, nf, d⟩ := I.pin p hp
    have nch : p.1 ∉ ch := fun z => (hch p.1 z).2.2.2 p hp rfl
    exact (c_AAAA (keep p.1 p.2 ne nf nch e n) (free p.1 p.2 nch e n) ne nf d)
/-- .. where the frame's own object is kept too -/
theorem Inv.un {t' : Nat} (I : Inv X pins σ H s) (u : Un X.fs [] H H' s.heap h') (hok : HOk X.prog X.w H' h') : Inv X pins σ H' { s with heap := h', toks := t' } := by
  obtain ⟨m, ⟨o, es, ep, ho, r⟩, _⟩ := id I.loc
  obtain ⟨sl, hL⟩ := u.any ho I.free (by simp)
  exact I.step (g' := s.gens) (d' := s.drawn) (ch := []) (fun _ z => nomatch z) (fun b o _ hb _ e n => u.keep b o e n hb (by simp)) (fun b o _ hb _ e n => u.slot b o e n hb (by simp)) (fun b o _ e n => u.free b o e n (by simp)) (fun b o _ e => u.there b o e (by simp)) u.tups u.frzs u.tbls (fun m' hm => by
    obtain ⟨o', es', ep', ho', r'⟩ := hm
    rw [ho] at ho'; cases ho'
    exact (c_EEEA _ es' ep' hL r')) hok I.bare
/-- behind a call (or a comprehension's block): the slots of this frame may have changed too, the records at ch may have turned -/
theorem Inv.call {g' : Array GenState} {t' : Nat} {d' : Drawn} {ch : List Addr} (I : Inv X pins σ H s) (u : Un (frs X.stack) ch H H' s.heap h') (hok : HOk X.prog X.w H' h') (hg : AllBare g')
    (hch : ∀ b ∈ ch, (b ∈ X.ex ∨ X.s₀.heap.objs.size ≤ b) ∧ b ≠ X.env.locals ∧ (∀ x c, X.env.cells.lookup x = some c → c ≠ b) ∧ ∀ p ∈ X.pn ++ pins, p.1 ≠ b) :
    Inv X pins σ H' { s with heap := h', gens := g', drawn := d', toks := t' } := by
  obtain ⟨m, ⟨o, es, ep, ho, r⟩, _⟩ := id I.loc
  obtain ⟨sl, hL⟩ := u.any ho I.free fun z => (hch _ z).2.1 rfl
  exact I.step (ch := ch) hch (fun b o hL hb hc e n => u.keep b o e n (fun z => (List.mem_cons.mp (I.stkSub b z)).elim hL hb) hc) (fun b o _ _ hc e n => u.any e n hc) (fun b o hc e n => u.free b o e n hc) (fun b o hc e => u.there b o e hc) u.tups u.frzs u.tbls (fun m' hm => by
    obtain ⟨o', es', ep', ho', r'⟩ := hm
    rw [ho] at ho'; cases ho'
    exact (c_EEEA _ es' ep' hL r')) hok hg
/-- an untracked record of ours (an iterator) has turned -/
theorem Inv.turned {t' : Nat} {it : Addr} (I : Inv X pins σ H s) (k : ∀ b o, b ≠ it → s.heap.get? b = some o → h'.get? b = some o) (hn : H it = none) (hL : it ≠ X.env.locals)
    (h1 : it ∈ X.ex ∨ X.s₀.heap.objs.size ≤ it) (h2 : ∀ x c, X.env.cells.lookup x = some c → c ≠ it) (h3 : ∀ p ∈ X.pn ++ pins, p.1 ≠ it) : Inv X pins σ H { s with heap := h', toks := t' } := by
  have nit : ∀ b u, H b = some u → b ≠ it := fun b u e z => by rw [z, hn] at e; cases e
  refine I.step (g' := s.gens) (d' := s.drawn) (ch := [it]) (fun b hb => ?_) (fun b o _ _ hc e _ => k b o (fun z => hc (by simp [z])) e) (fun b o _ _ hc e _ => ⟨o.slots, k b o (fun z => hc (by simp [z])) e⟩) (fun _ _ _ _ n => n)
    (fun b o hc e => ⟨o, k b o (fun z => hc (by simp [z])) e⟩) (fun _ _ e => e) (fun _ _ _ e => e) (fun b ps e => ⟨#[], by rw [e]; simp⟩) (fun m hm => ?_) (fun b u e => ?_) I.bare
  · have e : b = it := by simpa using hb
    subst e
    exact (c_AAA h1 hL h2 h3)
  · obtain ⟨o, es, ep, ho, r⟩ := hm
    exact (c_EEEA o es ep (k _ o (Ne.symm hL) ho) r)
  · refine (I.hok b u e).stay (fun c v hc q => k c v ?_ q) (fun _ q => q) fun _ _ q => q
    rcases hc with z | z
    · rw [z]; exact nit b u e
    · exact nit c _ z
theorem Inv.tok (I : Inv X pins σ H s) (t : Nat) : Inv X pins σ H { s with toks := t } := I.un (h' := s.heap) (t' := t) Un.refl I.hok
/-- all objects kept -/
theorem Inv.kept {t' : Nat} (I : Inv X pins σ H s) (k : ∀ b u, s.heap.get? b = some u → h'.get? b = some u) : Inv X pins σ H { s with heap := h', toks := t' } := I.un (Un.kept k) (I.hok.kept k)
/-- a new object laid and tracked -/
theorem Inv.laid {a : Addr} {o : HO} {t' : Nat} (I : Inv X pins σ H s) (k : ∀ b u, s.heap.get? b = some u → h'.get? b = some u) (hp : s.heap.objs.size ≤ a) (new : ObjOk X.prog X.w (upd H a o) h' a o) :
    Inv X pins σ (upd H a o) { s with heap := h', toks := t' } := I.un (Un.laid k hp (I.hok.fresh hp)) (I.hok.laid k hp new)
/-- an object written -/
theorem Inv.write {x e : Addr} {o : HO} {t' : Nat} (I : Inv X pins σ H s) (mu : Mut (H x)) (he : e = x ∨ H e = some (.own x)) (k : ∀ b u, b ≠ e → s.heap.get? b = some u → h'.get? b = some u) (heo : ∃ u, h'.get? e = some u)
    (new : ObjOk X.prog X.w (upd H x o) h' x o) : Inv X pins σ (upd H x o) { s with heap := h', toks := t' } := I.un (Un.write mu he k heo) (I.hok.write mu he k heo new)
/-- forgetting slots, pins -/
theorem Inv.weak {σ' : List (Option V)} (I : Inv X pins σ H s) (hl : σ'.length = σ.length) (w : ∀ (i : Nat) v, σ'[i]? = some (some v) → σ[i]? = some (some v)) : Inv X pins σ' H s :=
  ⟨I.ok, I.os, I.bare, I.base, let ⟨m, hn, hl'⟩ := I.loc; (c_EA m hn (fun i x v e1 e2 e3 => hl' i x v e1 (w i v e2) e3)), I.cell, I.free, I.freeC, I.pin, I.hok, hl.trans I.len⟩
theorem Inv.pins_of {pins' : List (Addr × Obj)} (I : Inv X pins σ H s) (h : ∀ p ∈ pins', s.heap.get? p.1 = some p.2 ∧ H p.1 = none ∧ p.1 ≠ X.env.locals ∧ p.1 ∉ X.fs ∧ ∀ v, p.2.data ≠ .cell v) : Inv X pins' σ H s :=
  ⟨I.ok, I.os, I.bare, I.base, I.loc, I.cell, I.free, I.freeC, fun p hp => (List.mem_append.mp hp).elim (fun z => I.pin p (List.mem_append_left _ z)) (h p), I.hok, I.len⟩

theorem nodup_ix {N : List Str} (hN : N.Nodup) {i j : Nat} {x : Str} (a : N[i]? = some x) (b : N[j]? = some x) : i = j := by
  obtain ⟨h1, e1⟩ := List.getElem?_eq_some_iff.mp a
  obtain ⟨h2, e2⟩ := List.getElem?_eq_some_iff.mp b
  exact (List.getElem_inj hN).mp (e1.trans e2.symm)

/-- a name is stored; what changed -/
theorem store_ok2 {M : Model} {A : Around} {E : Value → Shared → Prop} {i : Nat} {x : Str} {v : V} {u : Value} {Q : Unit → Shared → Prop} (I : Inv X pins σ H s) (hN : X.N.Nodup) (hi : X.N[i]? = some x) (hx : Loc X.env.scope x) (r : RelV v u)
    (h : ∀ s', Inv X pins (σ.set i (some v)) H s' → (∃ a, Heap.SameBut a s.heap s'.heap ∧ (a = X.env.locals ∨ X.env.cells.lookup x = some a)) → Q () s') (hf : X.fn x = true ∨ X.env.scope.names.lookup x = some .local := by first | exact .inl rfl | exact .inr rfl | assumption) : wpAny M A (storeName X.env x u) Q E s := by
  obtain ⟨m, hn, hl⟩ := id I.loc
  have hcls : (X.env.scope.kind == .class || (X.env.scope.kind == .module && X.env.locals != X.env.globals)) = false := by rw [I.ok.kind]; rfl
  have hiσ : i < σ.length := by rw [I.len]; exact (List.getElem?_eq_some_iff.mp hi).1
  have cne := I.cne
  have tracked : ∀ {a : Addr} {h' : Heap}, (∃ o, s.heap.get? a = some o ∧ H a = none) → Heap.SameBut a s.heap h' → HOk X.prog X.w H h' := fun {a h'} ha hs b ob e => by
    obtain ⟨_, _, hfree⟩ := ha
    refine (I.hok b ob e).stay (fun c w' hc q => (hs.2 c ?_).trans q) (fun _ q => q) fun _ _ q => q
    rintro rfl
    rcases hc with rfl | hc
    · rw [hfree] at e; cases e
    · rw [hfree] at hc; cases hc
  rcases hx with hk | hk
  · refine wpAny_storeName_local hk hn (fun h' hn' hs => ?_) hcls
    obtain ⟨oL, _, _, hoL, _⟩ := id hn
    refine h _ ⟨I.ok, I.os, I.bare, ⟨fun b o e n hb hx => ?_, fun b o e n hb hx => ?_, I.base.free, fun b o e hx => ?_, I.base.tups, I.base.frzs, I.base.tbls⟩, (c_EA _ hn' (fun j y v' e1 e2 e3 => ?_)), fun y c e => ?_, I.free, I.freeC, fun p hp => ?_, tracked (c_EA oL hoL I.free) hs, by simpa using I.len⟩ (c_EA _ hs (.inl rfl))
    · exact (hs.2 b (Nat.ne_of_lt (Nat.lt_of_lt_of_le (Heap.lt_size e) I.ok.above))).trans (I.base.keep b o e n hb hx)
    · obtain ⟨sl, e1⟩ := I.base.slot b o e n hb hx
      exact ⟨sl, (hs.2 b (Nat.ne_of_lt (Nat.lt_of_lt_of_le (Heap.lt_size e) I.ok.above))).trans e1⟩
    · obtain ⟨o', e1⟩ := I.base.there b o e hx
      exact ⟨o', (hs.2 b (Nat.ne_of_lt (Nat.lt_of_lt_of_le (Heap.lt_size e) I.ok.above))).trans e1⟩
    · by_cases hj : j = i
      · subst hj
        rw [hi] at e1; cases e1
        rw [List.getElem?_set_self hiσ] at e2
        cases e2
        exact (c_EA u r (.inl ⟨hk, by simp⟩))
      · rw [List.getElem?_set_ne (Ne.symm hj)] at e2
        obtain ⟨u', r', q⟩ := hl j y v' e1 e2 e3
        refine (c_EA u' r' ?_)
        rcases q with ⟨k, e⟩ | ⟨k, c, e, z⟩
        · refine .inl ⟨k, ?_⟩
          have : y ≠ x := fun e => hj (nodup_ix hN e1 (e ▸ hi))
          simp [this, e]
        · exact .inr (c_AEA k c e (z.sameBut hs (cne y c e)))
    · obtain ⟨w', z⟩ := I.cell y c e
      exact ⟨w', z.sameBut hs (cne y c e)⟩
    · obtain ⟨e, n, ne, nf, d⟩ := I.pin p hp
      exact (c_AAAA ((hs.2 p.1 ne).trans e) n ne nf d)
  · have hfn : X.fn x = true := by
      rcases hf with z | z
      · exact z
      · rw [z] at hk; cases hk
    obtain ⟨c, hc⟩ := I.ok.has x (.inl hk)
    obtain ⟨w', z⟩ := I.cell x c hc
    refine wpAny_storeName_cell I.ok.kind hk hc z (fun h' hc' hs => ?_)
    obtain ⟨oc, hoc, hocd⟩ := id z
    refine h { s with heap := h' } ⟨I.ok, I.os, I.bare, ⟨fun b o e n hb hx => ?_, fun b o e n hb hx => ?_, I.base.free, fun b o e hx => ?_, I.base.tups, I.base.frzs, I.base.tbls⟩, (c_EA m (hn.sameBut hs (Ne.symm (cne x c hc))) (fun j y v' e1 e2 e3 => ?_)), fun y c' e => ?_, I.free, I.freeC, fun p hp => ?_, tracked (c_EA oc hoc (I.freeC x c hc)) hs, by simpa using I.len⟩ (c_EA c hs (.inr hc))
    · exact (hs.2 b (Nat.ne_of_lt (Nat.lt_of_lt_of_le (Heap.lt_size e) (I.ok.cab x c hfn hc)))).trans (I.base.keep b o e n hb hx)
    · obtain ⟨sl, e1⟩ := I.base.slot b o e n hb hx
      exact ⟨sl, (hs.2 b (Nat.ne_of_lt (Nat.lt_of_lt_of_le (Heap.lt_size e) (I.ok.cab x c hfn hc)))).trans e1⟩
    · obtain ⟨o', e1⟩ := I.base.there b o e hx
      exact ⟨o', (hs.2 b (Nat.ne_of_lt (Nat.lt_of_lt_of_le (Heap.lt_size e) (I.ok.cab x c hfn hc)))).trans e1⟩
    · by_cases hj : j = i
      · subst hj
        rw [hi] at e1; cases e1
        rw [List.getElem?_set_self hiσ] at e2
        cases e2
        exact (c_EA u r (.inr (c_AEA (.inl hk) c hc hc')))
      · rw [List.getElem?_set_ne (Ne.symm hj)] at e2
        obtain ⟨u', r', q⟩ := hl j y v' e1 e2 e3
        refine (c_EA u' r' ?_)
        rcases q with q | ⟨k, c', e, z'⟩
        · exact .inl q
        · refine .inr (c_AEA k c' e (z'.sameBut hs ?_))
          rintro rfl
          exact hj (nodup_ix hN e1 (I.ok.inj _ _ _ e hc ▸ hi))
    · by_cases hcc : c' = c
      · subst hcc; exact ⟨_, hc'⟩
      · obtain ⟨w2, z2⟩ := I.cell y c' e
        exact ⟨w2, z2.sameBut hs hcc⟩
    · obtain ⟨e, n, ne, nf, d⟩ := I.pin p hp
      refine (c_AAAA ((hs.2 p.1 ?_).trans e) n ne nf d)
      intro q
      rw [q, hoc] at e
      have q' : oc = p.2 := Option.some.inj e
      exact d w' (by rw [← q']; exact hocd)
theorem store_ok {M : Model} {A : Around} {E : Value → Shared → Prop} {i : Nat} {x : Str} {v : V} {u : Value} {Q : Unit → Shared → Prop} (I : Inv X pins σ H s) (hN : X.N.Nodup) (hi : X.N[i]? = some x) (hx : Loc X.env.scope x) (r : RelV v u)
    (h : ∀ s', Inv X pins (σ.set i (some v)) H s' → Q () s') (hf : X.fn x = true ∨ X.env.scope.names.lookup x = some .local := by first | exact .inl rfl | exact .inr rfl | assumption) : wpAny M A (storeName X.env x u) Q E s :=
  store_ok2 I hN hi hx r (fun s' I' _ => h s' I') hf
/-- behind a call or a block, the state as it is -/
theorem Inv.call' {s' : Shared} {ch : List Addr} (I : Inv X pins σ H s) (ho : s'.os = s.os) (u : Un (frs X.stack) ch H H' s.heap s'.heap) (hok : HOk X.prog X.w H' s'.heap) (hg : AllBare s'.gens)
    (hch : ∀ b ∈ ch, (b ∈ X.ex ∨ X.s₀.heap.objs.size ≤ b) ∧ b ≠ X.env.locals ∧ (∀ x c, X.env.cells.lookup x = some c → c ≠ b) ∧ ∀ p ∈ X.pn ++ pins, p.1 ≠ b) : Inv X pins σ H' s' := by
  obtain ⟨h', g', d', t', o'⟩ := s'
  have e : o' = s.os := ho
  subst e
  exact I.call (g' := g') (t' := t') (d' := d') u hok hg hch
end

/-! ### the judgements -/
/-- an exception: its class, its own dict's address (where it has one), the abstract heap behind it -/
abbrev XK := Value → Option Addr → Hp → Prop
abbrev St := List (Option V)
abbrev VK := V → Hp → Prop
/-- an expression's reading; a test's; an argument list's -/
abbrev TE := St → Hp → VK → Prop
abbrev TT := St → Hp → (Bool → Hp → Prop) → Prop
abbrev TA := St → Hp → (List V → Hp → Prop) → Prop
/-- what is wanted behind a statement -/
structure Ends where
  nx : St → Hp → Prop
  rt : VK
  bk : St → Hp → Prop := fun _ _ => False
  ct : St → Hp → Prop := fun _ _ => False
abbrev TS := Ends → St → Hp → Prop

def EP (X : Cx) (pins : List (Addr × Obj)) (σ : St) (Q : VK) (u : Value) (s' : Shared) : Prop := ∃ v H', Inv X pins σ H' s' ∧ RelV v u ∧ Q v H'
def TP (X : Cx) (pins : List (Addr × Obj)) (σ : St) (Q : Bool → Hp → Prop) (b : Bool) (s' : Shared) : Prop := ∃ H', Inv X pins σ H' s' ∧ Q b H'
def AP (X : Cx) (pins : List (Addr × Obj)) (σ : St) (Q : List V → Hp → Prop) (us : List Value) (s' : Shared) : Prop := ∃ vs H', Inv X pins σ H' s' ∧ Vals vs us ∧ Q vs H'
def SP (X : Cx) (pins : List (Addr × Obj)) (D : Ends) (f : Flow) (s' : Shared) : Prop :=
  match f with
  | .next => ∃ σ' H', Inv X pins σ' H' s' ∧ D.nx σ' H'
  | .brk => ∃ σ' H', Inv X pins σ' H' s' ∧ D.bk σ' H'
  | .cont => ∃ σ' H', Inv X pins σ' H' s' ∧ D.ct σ' H'
  | .ret u => ∃ v σ' H', Inv X pins σ' H' s' ∧ RelV v u ∧ D.rt v H'

def PE (X : Cx) (e : Expr) (t : TE) : Prop :=
  ∀ (pins : List (Addr × Obj)) (s : Shared) (σ : St) (H : Hp) (Q : VK), Inv X pins σ H s → t σ H Q → wpAny (model X.prog X.w) X.A (eval e X.env) (EP X pins σ Q) X.xe s
def PT (X : Cx) (e : Expr) (t : TT) : Prop :=
  ∀ (pins : List (Addr × Obj)) (s : Shared) (σ : St) (H : Hp) (Q : Bool → Hp → Prop), Inv X pins σ H s → t σ H Q → wpAny (model X.prog X.w) X.A (isTrue e X.env (eval e X.env)) (TP X pins σ Q) X.xe s
/-- a test whatever its 'whole' is (and, or) -/
def PW (X : Cx) (e : Expr) (t : TT) : Prop :=
  ∀ (whole : Sem Value) (pins : List (Addr × Obj)) (s : Shared) (σ : St) (H : Hp) (Q : Bool → Hp → Prop), Inv X pins σ H s → t σ H Q → wpAny (model X.prog X.w) X.A (isTrue e X.env whole) (TP X pins σ Q) X.xe s
theorem PW.pt {X : Cx} {e : Expr} {t : TT} (h : PW X e t) : PT X e t := h _
/-- an argument list (no star), from the left -/
def PA (X : Cx) (es : List Expr) (t : TA) : Prop :=
  ∀ (pos : Pos) (pins : List (Addr × Obj)) (s : Shared) (σ : St) (H : Hp) (Q : List V → Hp → Prop), Inv X pins σ H s → t σ H Q → wpAny (model X.prog X.w) X.A (spliced (backTo pos (starEach es X.env))) (AP X pins σ Q) X.xe s
def PS (X : Cx) (st : Stmt) (t : TS) : Prop :=
  ∀ (pins : List (Addr × Obj)) (s : Shared) (σ : St) (H : Hp) (D : Ends), Inv X pins σ H s → t D σ H → wpAny (model X.prog X.w) X.A (exec st X.env) (SP X pins D) X.xe s
def PSs (X : Cx) (st : List Stmt) (t : TS) : Prop :=
  ∀ (pins : List (Addr × Obj)) (s : Shared) (σ : St) (H : Hp) (D : Ends), Inv X pins σ H s → t D σ H → wpAny (model X.prog X.w) X.A (execs st X.env) (SP X pins D) X.xe s
/-- weaken the end -/
theorem thn {α : Type} {t : Sem α} {Q Q' : α → Shared → Prop} {M : Model} {A : Around} {E : Value → Shared → Prop} {s : Shared} (h : wpAny M A t Q E s) (hQ : ∀ a s, Q a s → Q' a s) : wpAny M A t Q' E s := wpAny_mono h hQ fun _ _ x => x
end L2

namespace L2
open PySem PySem.Spec PyProof.Rows
section
variable {X : Cx}


/-! ### names and constants -/
def tVar (i : Nat) : TE := fun σ H Q => ∃ v, σ[i]? = some (some v) ∧ Q v H
def tC (v : V) : TE := fun _ H Q => Q v H
theorem pe_var {i : Nat} {x : Str} {pos : Pos} (hN : X.N[i]? = some x) (hv : Vis X.env.scope x) (hd : (x == ("__debug__" : Str)) = false := by decide) (hcd : (x == ("__classdict__" : Str)) = false := by decide) : PE X (.Name x pos) (tVar i) := by
  intro pins s σ H Q I h
  obtain ⟨v, e, h⟩ := h
  obtain ⟨m, hn, hl⟩ := I.loc
  obtain ⟨u, r, l⟩ := hl i x v hN e hv
  have fin : EP X pins σ Q u s := (c_EEAA v H I r h)
  rcases l with ⟨hk, hm⟩ | ⟨hk, c, hc, hcell⟩
  · exact wpAny_Name (wpAny_loadName_local I.ok.kind hk hn hm fin) hd
  · rcases hk with hk | hk
    · exact wpAny_Name (wpAny_loadName_cell I.ok.kind hk hc hcell fin) hd
    · exact wpAny_Name (wpAny_loadName_free I.ok.kind hk hc hcell fin hcd) hd
theorem pe_int {i j pos} : PE X (.Constant (.int i) j pos) (tC (.int i)) := fun _ _ _ H _ I h => wpAny_Constant_int (c_EEAA (.int i) H (I.tok _) ⟨_, rfl⟩ h)
theorem pe_bl {b j pos} : PE X (.Constant (.bool b) j pos) (tC (.bl b)) := fun _ _ _ H _ I h => Constant_bool (c_EEAA (.bl b) H I rfl h)
theorem pe_non {j pos} : PE X (.Constant .none j pos) (tC .non) := fun _ _ _ H _ I h => Constant_none (c_EEAA (.non) H I rfl h)
theorem pe_str {x j pos} : PE X (.Constant (.str x) j pos) (tC (.str x)) := fun _ _ _ H _ I h => Calls.Constant_str (c_EEAA (.str x) H (I.tok _) ⟨_, rfl⟩ h)

/-- a global name of the def -/
def Gl (X : Cx) (x : Str) : Prop := X.env.kindOf x = some .globalImplicit
theorem ld_glob {E : Value → Shared → Prop} {pins : List (Addr × Obj)} {s : Shared} {σ : St} {H : Hp} {x : Str} {u : Value} {pos : Pos} {Q : Value → Shared → Prop} (I : Inv X pins σ H s) (hg : Gl X x) (hm : X.mg x = some u) (h : Q u s)
    (hd : (x == ("__debug__" : Str)) = false := by decide) : wpAny (model X.prog X.w) X.A (eval (.Name x pos) X.env) Q E s :=
  Calls.Name_function_global I.ok.kind hg (Calls.loadGlobal_global (by rw [I.ok.glob]; exact I.mod.glob.keeps I.bk) hm h) hd
theorem ld_blt {E : Value → Shared → Prop} {pins : List (Addr × Obj)} {s : Shared} {σ : St} {H : Hp} {x : Str} {u : Value} {pos : Pos} {Q : Value → Shared → Prop} (I : Inv X pins σ H s) (hg : Gl X x) (hm : X.mg x = none) (hv : bootBuiltins x = some u) (h : Q u s)
    (hn : x ≠ "__name__" := by decide) (hd : (x == ("__debug__" : Str)) = false := by decide) : wpAny (model X.prog X.w) X.A (eval (.Name x pos) X.env) Q E s := by
  obtain ⟨mb, h1, h2⟩ := I.mod.blt
  exact Calls.Name_function_global I.ok.kind hg (Calls.loadGlobal_builtin (by rw [I.ok.glob]; exact I.mod.glob.keeps I.bk) hm (by rw [I.ok.blt]; exact h1.keeps I.bk) ((h2 x hn).trans hv) h) hd
/-- a module's constant, a class, a function, as a value -/
theorem pe_glob {x : Str} {v : V} {u : Value} {pos : Pos} (hg : Gl X x) (hm : X.mg x = some u) (r : RelV v u) (hd : (x == ("__debug__" : Str)) = false := by decide) : PE X (.Name x pos) (tC v) :=
  fun _ _ _ H _ I h => ld_glob I hg hm (c_EEAA v H I r h) hd
theorem pe_bltn {x : Str} {v : V} {u : Value} {pos : Pos} (hg : Gl X x) (hm : X.mg x = none) (hv : bootBuiltins x = some u) (r : RelV v u) (hn : x ≠ "__name__" := by decide) (hd : (x == ("__debug__" : Str)) = false := by decide) : PE X (.Name x pos) (tC v) :=
  fun _ _ _ H _ I h => ld_blt I hg hm hv (c_EEAA v H I r h) hn hd

/-! ### arithmetic -/
/-- two ints -/
def t2I (ta tb : TE) (k : Int → Int → Hp → Prop) : St → Hp → Prop := fun σ H => ta σ H fun x H1 => tb σ H1 fun y H2 => ∃ i j, x = .int i ∧ y = .int j ∧ k i j H2
def tAdd (ta tb : TE) : TE := fun σ H Q => t2I ta tb (fun i j H2 => Q (.int (i + j)) H2) σ H
def tSub (ta tb : TE) : TE := fun σ H Q => t2I ta tb (fun i j H2 => Q (.int (i - j)) H2) σ H
/-- the left factor below 2^64 -/
def tMul (ta tb : TE) : TE := fun σ H Q => t2I ta tb (fun i j H2 => (-(2 ^ 64) < i ∧ i < 2 ^ 64) ∧ Q (.int (i * j)) H2) σ H
variable {a b : Expr} {ta tb : TE} {pos : Pos}

/-! ### comparisons -/
def PC (X : Cx) (op : CmpOp) (a b : Expr) (t : TE) : Prop :=
  ∀ (pins : List (Addr × Obj)) (s : Shared) (σ : St) (H : Hp) (Q : VK), Inv X pins σ H s → t σ H Q →
    wpAny (model X.prog X.w) X.A (eval a X.env) (fun v s₁ => wpAny (model X.prog X.w) X.A (eval b X.env) (fun u s₂ => wpAny (model X.prog X.w) X.A (compareOp op v u) (EP X pins σ Q) X.xe s₂) X.xe s₁) X.xe s
def tCmp (p : Int → Int → Bool) (ta tb : TE) : TE := fun σ H Q => t2I ta tb (fun i j H2 => Q (.bl (p i j)) H2) σ H
abbrev tLt : TE → TE → TE := tCmp fun i j => decide (i < j)
abbrev tLe : TE → TE → TE := tCmp fun i j => decide (i ≤ j)
abbrev tGt : TE → TE → TE := tCmp fun i j => decide (j < i)
abbrev tGe : TE → TE → TE := tCmp fun i j => decide (j ≤ i)
abbrev tEqI : TE → TE → TE := tCmp fun i j => decide (i = j)
abbrev tNeI : TE → TE → TE := tCmp fun i j => !decide (i = j)
/-- is None -/
def tIsN (ta : TE) : TE := fun σ H Q => ta σ H fun x H1 => Q (.bl (decide (x = .non))) H1
def tNotN (ta : TE) : TE := fun σ H Q => ta σ H fun x H1 => Q (.bl (!decide (x = .non))) H1
/-- a comparison as a value, as a test -/
def tB (t : TE) : TT := fun σ H Q => t σ H fun x H1 => ∃ c, x = .bl c ∧ Q c H1
/-- an expression whose value is a bool, as a test -/
theorem pt_val {e : Expr} {t : TE} (h : PE X e t) (he : ∀ whole, isTrue e X.env whole = (do let v ← whole; standAt e.pos; holding [v] (truthy v)) := by intro _; rfl) : PT X e (tB t) := by
  intro pins s σ H Q I hw
  refine isTrue_plain (thn (h pins s σ H _ I hw) fun v s1 ⟨x, H1, I1, r1, q1⟩ => ?_) (he _)
  obtain ⟨d, rfl, q⟩ := q1
  cases r1
  exact wpAny_truthy_bool (c_EA H1 I1 q)

/-! ### and, or, not -/
variable {tA tB' : TT} {rest : List Expr}
def tAnd (t u : TT) : TT := fun σ H Q => t σ H fun c H1 => if c = true then u σ H1 Q else Q false H1
def tOr (t u : TT) : TT := fun σ H Q => t σ H fun c H1 => if c = true then Q true H1 else u σ H1 Q
def tNot (t : TT) : TT := fun σ H Q => t σ H fun c H1 => Q (!c) H1
theorem pw_or1 (ha : PT X a tA) : PW X (.BoolOp .Or [a] pos) tA := by
  intro wh pins s σ H Q I h
  refine isTrue_or (thn (ha pins s σ H Q I h) fun c s1 e => ?_)
  cases c with
  | false => exact isTrue_or_nil e
  | true => exact e
theorem pw_or (ha : PT X a tA) (hb : PW X (.BoolOp .Or (b :: rest) pos) tB') : PW X (.BoolOp .Or (a :: b :: rest) pos) (tOr tA tB') := by
  intro wh pins s σ H Q I h
  refine isTrue_or (thn (ha pins s σ H _ I h) fun c s1 ⟨H1, I1, q1⟩ => ?_)
  cases c with
  | true => exact (c_EA H1 I1 q1)
  | false => exact hb wh pins s1 σ H1 Q I1 q1
theorem pt_not (ha : PT X a tA) : PT X (.UnaryOp .Not a pos) (tNot tA) := by
  intro pins s σ H Q I h
  exact isTrue_not (ha pins s σ H (fun c H1 => Q (!c) H1) I h)
/-- .. as values (bools) -/
def tAndV (ta tb : TE) : TE := fun σ H Q => ta σ H fun x H1 => ∃ c, x = .bl c ∧ if c = true then tb σ H1 Q else Q (.bl false) H1
def tOrV (ta tb : TE) : TE := fun σ H Q => ta σ H fun x H1 => ∃ c, x = .bl c ∧ if c = true then Q (.bl true) H1 else tb σ H1 Q
def tNotV (ta : TE) : TE := fun σ H Q => ta σ H fun x H1 => ∃ c, x = .bl c ∧ Q (.bl (!c)) H1
theorem pe_one {op} {t : TE} (h : PE X a t) : PE X (.BoolOp op [a] pos) t := fun pins s σ H Q I hw => BoolOp_one (h pins s σ H Q I hw)
theorem pe_and (ha : PE X a ta) (hb : PE X (.BoolOp .And (b :: rest) pos) tb) : PE X (.BoolOp .And (a :: b :: rest) pos) (tAndV ta tb) := by
  intro pins s σ H Q I h
  refine BoolOp_and (thn (ha pins s σ H _ I h) fun v s1 ⟨x, H1, I1, r1, q1⟩ => ?_)
  obtain ⟨c, rfl, q1⟩ := q1
  cases r1
  refine wpAny_truthy_bool ?_
  cases c with
  | true => exact hb pins s1 σ H1 Q I1 q1
  | false => exact (c_EEAA (.bl false) H1 I1 rfl q1)
theorem pe_or (ha : PE X a ta) (hb : PE X (.BoolOp .Or (b :: rest) pos) tb) : PE X (.BoolOp .Or (a :: b :: rest) pos) (tOrV ta tb) := by
  intro pins s σ H Q I h
  refine BoolOp_or (thn (ha pins s σ H _ I h) fun v s1 ⟨x, H1, I1, r1, q1⟩ => ?_)
  obtain ⟨c, rfl, q1⟩ := q1
  cases r1
  refine wpAny_truthy_bool ?_
  cases c with
  | false => exact hb pins s1 σ H1 Q I1 q1
  | true => exact (c_EEAA (.bl true) H1 I1 rfl q1)
theorem pe_not (ha : PE X a ta) : PE X (.UnaryOp .Not a pos) (tNotV ta) := by
  intro pins s σ H Q I h
  refine UnaryOp_ (thn (ha pins s σ H _ I h) fun v s1 ⟨x, H1, I1, r1, q1⟩ => ?_)
  obtain ⟨c, rfl, q1⟩ := q1
  cases r1
  exact not_of (wpAny_truthy_bool (c_EEAA (.bl (!c)) H1 I1 rfl q1))
/-- a if t else b -/
def tIf (t : TT) (ta tb : TE) : TE := fun σ H Q => t σ H fun c H1 => if c = true then ta σ H1 Q else tb σ H1 Q
theorem pe_ifExp {c : Expr} (hc : PT X c tA) (ha : PE X a ta) (hb : PE X b tb) : PE X (.IfExp c a b pos) (tIf tA ta tb) := by
  intro pins s σ H Q I h
  refine wpAny_IfExp (thn (hc pins s σ H _ I h) fun d s1 ⟨H1, I1, q1⟩ => ?_)
  cases d with
  | true => exact ha pins s1 σ H1 Q I1 q1
  | false => exact hb pins s1 σ H1 Q I1 q1
end
end L2

namespace L2
open PySem PySem.Spec PyProof.Rows

/-! ### a list, a tuple that is read: tracked, frozen, or an object of the module -/
def SqL (K : PySem.W.Frag) (H : Hp) (a : Addr) (xs : List V) : Prop :=
  Rd H a (.lst xs) ∨
    ∃ (o : Obj) (its : Array Value) (n : Nat), K.lookup a = some o ∧ o.cls = .type "list" ∧ o.dict = none ∧ o.data = .seq its n ∧ its.size ≤ sizeLine ∧ Vals xs its.toList
def SqT (K : PySem.W.Frag) (H : Hp) (a : Addr) (xs : List V) : Prop :=
  Rd H a (.tup xs) ∨
    ∃ (o : Obj) (its : Array Value) (n : Nat), K.lookup a = some o ∧ o.cls = .type "tuple" ∧ o.data = .seq its n ∧ its.size ≤ sizeLine ∧ Vals xs its.toList
def absV : Value → Option V
  | .none => some .non
  | .bool b => some (.bl b)
  | .int i _ => some (.int i)
  | .str x _ => some (.str x)
  | .bytes b _ => some (.byt b)
  | .float b _ => some (.flt b)
  | .ref a => some (.ref a)
  | .type n => some (.ty n)
  | _ => none
theorem RelV.abs {x : V} {u : Value} (r : RelV x u) : absV u = some x := by
  cases x with
  | non => cases r; rfl
  | bl _ => cases r; rfl
  | int _ => obtain ⟨t, rfl⟩ := r; rfl
  | str _ => obtain ⟨t, rfl⟩ := r; rfl
  | byt _ => obtain ⟨t, rfl⟩ := r; rfl
  | flt _ => obtain ⟨t, rfl⟩ := r; rfl
  | ref _ => cases r; rfl
  | ty _ => cases r; rfl
theorem RelV.inj {x y : V} {u : Value} (r : RelV x u) (q : RelV y u) : x = y := Option.some.inj (r.abs.symm.trans q.abs)
theorem Vals.inj : ∀ {xs ys : List V} {us : List Value}, Vals xs us → Vals ys us → xs = ys
  | _, _, _, .nil, .nil => rfl
  | _, _, _, .cons r t, .cons r' t' => by rw [r.inj r', Vals.inj t t']
section
variable {X : Cx} {pins : List (Addr × Obj)} {σ : St} {H : Hp} {s : Shared} {a : Addr} {xs ys : List V}
theorem SqL.of {K : PySem.W.Frag} (h : H a = some (.lst xs)) : SqL K H a xs := .inl (.inl h)
theorem SqT.of {K : PySem.W.Frag} (h : H a = some (.tup xs)) : SqT K H a xs := .inl (.inl h)
theorem Inv.list (I : Inv X pins σ H s) (h : SqL X.K H a xs) : ∃ its : List Value, Vals xs its ∧ PlainL s.heap a its.toArray ∧ xs.length ≤ sizeLine := by
  rcases h with h | ⟨o, its, n, hk, hc, hd, hs, hz, r⟩
  · obtain ⟨z, its, n, r, e⟩ := h.ok I.hok
    exact (c_EAA its r (c_EEAAA _ n e rfl rfl rfl) z)
  · refine (c_EAA its.toList r (c_EEAAA o n (I.kIn a o hk) hc hd (by simpa using hs)) ?_)
    have e := r.length
    simp only [Array.length_toList] at e
    omega
theorem Inv.tuple (I : Inv X pins σ H s) (h : SqT X.K H a xs) : ∃ its : List Value, Vals xs its ∧ IsTup s.heap a its.toArray ∧ xs.length ≤ sizeLine := by
  rcases h with h | ⟨o, its, n, hk, hc, hs, hz, r⟩
  · obtain ⟨z, its, r, p⟩ := h.ok I.hok
    exact (c_EAA its r p z)
  · refine (c_EAA its.toList r (c_EAAE o (I.kIn a o hk) hc n (by simpa using hs)) ?_)
    have e := r.length
    simp only [Array.length_toList] at e
    omega
theorem Inv.list_inj (I : Inv X pins σ H s) (h : SqL X.K H a xs) (h' : SqL X.K H a ys) : xs = ys := by
  obtain ⟨its, r, ⟨o, n, e, _, _, d⟩, _⟩ := I.list h
  obtain ⟨its', r', ⟨o', n', e', _, _, d'⟩, _⟩ := I.list h'
  rw [e] at e'; cases e'
  rw [d] at d'
  injection d' with d1 _
  have : its = its' := by simpa using congrArg Array.toList d1
  subst this
  exact r.inj r'
theorem Inv.tuple_inj (I : Inv X pins σ H s) (h : SqT X.K H a xs) (h' : SqT X.K H a ys) : xs = ys := by
  obtain ⟨its, r, ⟨o, e, _, n, d⟩, _⟩ := I.tuple h
  obtain ⟨its', r', ⟨o', e', _, n', d'⟩, _⟩ := I.tuple h'
  rw [e] at e'; cases e'
  rw [d] at d'
  injection d' with d1 _
  have : its = its' := by simpa using congrArg Array.toList d1
  subst this
  exact r.inj r'
end

/-! ### another wish about exceptions -/
abbrev Cx.wish (X : Cx) (E : Value → Shared → Prop) : Cx := { X with xe := E }
/-- no exception leaves -/
abbrev Cx.nox (X : Cx) : Cx := X.wish fun _ _ => False
theorem Cx.Ok.wish {X : Cx} (ok : X.Ok) (E : Value → Shared → Prop) : (X.wish E).Ok :=
  ⟨ok.mod, ok.kind, ok.glob, ok.blt, ok.above, ok.inj, ok.has, ok.cab, ok.hd, ok.frames, ok.stk, ok.exf, ok.bs, ok.bsz, ok.noex, ok.exfs, ok.funs, ok.frf⟩
theorem Cx.Ok.unwish {X : Cx} {E : Value → Shared → Prop} (ok : (X.wish E).Ok) : X.Ok :=
  ⟨ok.mod, ok.kind, ok.glob, ok.blt, ok.above, ok.inj, ok.has, ok.cab, ok.hd, ok.frames, ok.stk, ok.exf, ok.bs, ok.bsz, ok.noex, ok.exfs, ok.funs, ok.frf⟩
section
variable {X : Cx} {pins : List (Addr × Obj)} {σ : St} {H : Hp} {s : Shared} {E : Value → Shared → Prop}
theorem Inv.wish (I : Inv X pins σ H s) (E : Value → Shared → Prop) : Inv (X.wish E) pins σ H s := ⟨I.ok.wish E, I.os, I.bare, I.base, I.loc, I.cell, I.free, I.freeC, I.pin, I.hok, I.len⟩
theorem Inv.unwish (I : Inv (X.wish E) pins σ H s) : Inv X pins σ H s := ⟨I.ok.unwish, I.os, I.bare, I.base, I.loc, I.cell, I.free, I.freeC, I.pin, I.hok, I.len⟩
theorem SP.unwish {D : Ends} {f : Flow} {s' : Shared} (h : SP (X.wish E) pins D f s') : SP X pins D f s' := by
  cases f with
  | next => obtain ⟨σ', H', I, q⟩ := h; exact (c_EEA σ' H' I.unwish q)
  | brk => obtain ⟨σ', H', I, q⟩ := h; exact (c_EEA σ' H' I.unwish q)
  | cont => obtain ⟨σ', H', I, q⟩ := h; exact (c_EEA σ' H' I.unwish q)
  | ret u => obtain ⟨v, σ', H', I, r, q⟩ := h; exact (c_EEEAA v σ' H' I.unwish r q)
theorem PSs.nox {st : List Stmt} {t : TS} (h : PSs X.nox st t) : PSs X st t := fun pins s σ H D I hw =>
  wpAny_mono (h pins s σ H D (I.wish _) hw) (fun _ _ q => q.unwish) fun _ _ z => False.elim z
end

/-! ### blocks and small statements -/
section
variable {X : Cx} {st : Stmt} {rest : List Stmt} {t u : TS} {e : Expr} {te : TE} {pos : Pos}
def tNext : TS := fun D σ H => D.nx σ H
def tSeq (t u : TS) : TS := fun D σ H => t { D with nx := u D } σ H
theorem pss_nil : PSs X [] tNext := fun _ _ σ H _ I h => wpAny_execs_nil (c_EEA σ H I h)
theorem pss_cons (h1 : PS X st t) (h2 : PSs X rest u) : PSs X (st :: rest) (tSeq t u) := by
  intro pins s σ H D I h
  refine wpAny_execs_cons (thn (h1 pins s σ H { D with nx := u D } I h) fun f s1 q => ?_)
  cases f with
  | next =>
    obtain ⟨σ', H', I', q⟩ := q
    exact h2 pins s1 σ' H' D I' q
  | ret v => exact q
  | brk => exact q
  | cont => exact q
theorem pss_one (h1 : PS X st t) : PSs X [st] t := by
  intro pins s σ H D I h
  refine wpAny_execs_cons (thn (h1 pins s σ H D I h) fun f s1 q => ?_)
  cases f with
  | next => exact wpAny_execs_nil q
  | ret v => exact q
  | brk => exact q
  | cont => exact q
def tBreak : TS := fun D σ H => D.bk σ H
def tCont : TS := fun D σ H => D.ct σ H
/-- in a def's body nothing is shown -/
theorem Inv.quiet {pins : List (Addr × Obj)} {σ : St} {H : Hp} {s : Shared} (I : Inv X pins σ H s) : interactive X.env = false := by simp [interactive, I.ok.kind]
/-- an expression whose value is dropped -/
def tDrop (te : TE) : TS := fun D σ H => te σ H fun _ H1 => D.nx σ H1
theorem ps_expr (he : PE X e te) (hs : swapsWith e none pos.line X.env = pure false := by rfl) : PS X (.Expr e pos) (tDrop te) := by
  intro pins s σ H D I h
  exact wpAny_Expr_any (thn (he pins s σ H _ I h) fun v s1 ⟨x, H1, I1, r1, q1⟩ => (c_EEA σ H1 I1 q1)) I.quiet hs
def tRet (te : TE) : TS := fun D σ H => te σ H D.rt
theorem ps_ret (he : PE X e te) : PS X (.Return (some e) pos) (tRet te) := by
  intro pins s σ H D I h
  exact wpAny_Return_some (thn (he pins s σ H _ I h) fun v s1 ⟨x, H1, I1, r1, q1⟩ => (c_EEEAA x σ H1 I1 r1 q1))
def tRetN : TS := fun D _ H => D.rt .non H
def tIfS (c : TT) (t u : TS) : TS := fun D σ H => c σ H fun b H1 => if b = true then t D σ H1 else u D σ H1
theorem ps_if {c : Expr} {a b : List Stmt} {tc : TT} (hc : PT X c tc) (ha : PSs X a t) (hb : PSs X b u) : PS X (.If c a b pos) (tIfS tc t u) := by
  intro pins s σ H D I h
  refine wpAny_If (thn (hc pins s σ H _ I h) fun d s1 ⟨H1, I1, q1⟩ => ?_)
  cases d with
  | true => exact ha pins s1 σ H1 D I1 q1
  | false => exact hb pins s1 σ H1 D I1 q1
/-- code that the proof never comes to -/
def tNever : TS := fun _ _ _ => False
theorem pss_never {sts : List Stmt} : PSs X sts tNever := fun _ _ _ _ _ _ h => h.elim
end

/-! ### targets -/
abbrev TG := V → St → Hp → (St → Hp → Prop) → Prop
abbrev TGs := List V → St → Hp → (St → Hp → Prop) → Prop
def PG (X : Cx) (target : Expr) (t : TG) : Prop :=
  ∀ (pins : List (Addr × Obj)) (s : Shared) (σ : St) (H : Hp) (v : V) (u : Value) (Q : St → Hp → Prop), Inv X pins σ H s → RelV v u → t v σ H Q →
    wpAny (model X.prog X.w) X.A (assign target X.env u) (fun _ s' => ∃ σ' H', Inv X pins σ' H' s' ∧ Q σ' H') X.xe s
/-- several targets, one after another -/
def PGs (X : Cx) (ts : List Expr) (t : TGs) : Prop :=
  ∀ (pins : List (Addr × Obj)) (s : Shared) (σ : St) (H : Hp) (vs : List V) (us : List Value) (Q : St → Hp → Prop), Inv X pins σ H s → Vals vs us → t vs σ H Q →
    wpAny (model X.prog X.w) X.A (assignInOrder ((assignEach ts X.env).map (·.2)) us) (fun _ s' => ∃ σ' H', Inv X pins σ' H' s' ∧ Q σ' H') X.xe s
/-- o[i] = v, by values -/
abbrev TSet := V → V → V → Hp → (Hp → Prop) → Prop
def PSet (X : Cx) (t : TSet) : Prop :=
  ∀ (pins : List (Addr × Obj)) (s : Shared) (σ : St) (H : Hp) (o i v : V) (ov iv u : Value) (Q : Hp → Prop), Inv X pins σ H s → RelV o ov → RelV i iv → RelV v u → t o i v H Q →
    wpAny (model X.prog X.w) X.A (setItem ov iv u) (fun _ s' => ∃ H', Inv X pins σ H' s' ∧ Q H') X.xe s
/-- a op= b, by values -/
abbrev TIp := V → V → Hp → VK → Prop
def PIp (X : Cx) (op : Operator) (t : TIp) : Prop :=
  ∀ (pins : List (Addr × Obj)) (s : Shared) (σ : St) (H : Hp) (x y : V) (v u : Value) (Q : VK), Inv X pins σ H s → RelV x v → RelV y u → t x y H Q →
    wpAny (model X.prog X.w) X.A (inplaceOp op v u) (EP X pins σ Q) X.xe s
section
variable {X : Cx} {pos : Pos}
def gName (i : Nat) : TG := fun v σ H Q => Q (σ.set i (some v)) H
theorem pg_name {i : Nat} {x : Str} (hN : X.N.Nodup) (hi : X.N[i]? = some x) (hx : Loc X.env.scope x) (hf : X.fn x = true ∨ X.env.scope.names.lookup x = some .local := by first | exact .inl rfl | exact .inr rfl | assumption) : PG X (.Name x pos) (gName i) := by
  intro pins s σ H v u Q I r h
  exact wpAny_assign_Name (store_ok I hN hi hx r (fun s' I' => (c_EEA _ H I' h)) hf)
def gNil : TGs := fun vs σ H Q => vs = [] ∧ Q σ H
def gCons (t : TG) (u : TGs) : TGs := fun vs σ H Q => ∃ v r, vs = v :: r ∧ t v σ H fun σ' H' => u r σ' H' Q
theorem pgs_nil : PGs X [] gNil := by
  intro pins s σ H vs us Q I r h
  obtain ⟨e, h⟩ := h
  subst e
  cases r
  exact assignInOrder_nil (c_EEA σ H I h)
theorem pgs_cons {e : Expr} {es : List Expr} {t : TG} {u : TGs} (h1 : PG X e t) (h2 : PGs X es u)
    (hs : (assignEach (e :: es) X.env).map (·.2) = assign e X.env :: (assignEach es X.env).map (·.2) := by rfl) : PGs X (e :: es) (gCons t u) := by
  intro pins s σ H vs us Q I r h
  obtain ⟨v, vr, e1, h⟩ := h
  subst e1
  cases r with
  | cons r rr =>
    rw [hs]
    refine assignInOrder_cons (thn (h1 pins s σ H _ _ _ I r h) fun _ s1 ⟨σ1, H1, I1, q1⟩ => ?_)
    exact h2 pins s1 σ1 H1 _ _ Q I1 rr q1
/-- (a, b, ..) = a tuple of that length -/
def gTup (K : PySem.W.Frag) (n : Nat) (t : TGs) : TG := fun v σ H Q => ∃ a xs, v = .ref a ∧ SqT K H a xs ∧ xs.length = n ∧ t xs σ H Q
theorem pg_tup {es : List Expr} {k : Nat} {t : TGs} {n : Nat} (hc : X.calm = true) (h : PGs X es t)
    (hn : (assignEach es X.env).length = n := by rfl) (hst : (assignEach es X.env).findIdx? (·.1) = none := by rfl) : PG X (.Tuple es k pos) (gTup X.K n t) := by
  intro pins s σ H v u Q I r hw
  obtain ⟨a, xs, e1, hq, hl, hw⟩ := hw
  subst e1
  cases r
  obtain ⟨its, rv, ht, hz⟩ := I.tuple hq
  refine assign_Tuple_tuple (I.ok.hd hc) ht (by simp [hn, ← hl, rv.length]) hst fun h' hx => ?_
  have I1 : Inv X pins σ H { s with heap := h' } := I.kept (t' := s.toks) fun b o e => hx b o (Nat.ne_of_lt (Heap.lt_size e)) e
  exact h pins _ σ H xs _ Q I1 (by simpa using rv) hw
/-- o[i] = .. -/
def gSub (to ti : TE) (t : TSet) : TG := fun v σ H Q => to σ H fun o H1 => ti σ H1 fun i H2 => t o i v H2 fun H3 => Q σ H3
/-- target = value -/
def tAsg (te : TE) (g : TG) : TS := fun D σ H => te σ H fun x H1 => g x σ H1 D.nx
/-- name = value -/
theorem ps_set {i : Nat} {x : Str} {e : Expr} {te : TE} {pos' : Pos} (hN : X.N.Nodup) (hi : X.N[i]? = some x) (hx : Loc X.env.scope x) (he : PE X e te) (hs : swapsWith e (some (.Name x pos')) pos.line X.env = pure false := by rfl) (hf : X.fn x = true ∨ X.env.scope.names.lookup x = some .local := by first | exact .inl rfl | exact .inr rfl | assumption) :
    PS X (.Assign [.Name x pos'] e pos) (tAsg te (gName i)) := by
  intro pins s σ H D I h
  refine wpAny_Assign_Name (thn (he pins s σ H _ I h) fun v s1 ⟨y, H1, I1, r1, q1⟩ => ?_) hs
  exact store_ok I1 hN hi hx r1 (fun s2 I2 => (c_EEA _ H1 I2 q1)) hf
/-- a, b = x, y with plain local names: stored from the right; the pair itself is not tracked (the opening rows as in PyProof/Rows/TupAssign.lean:23) -/
def tPar (i j : Nat) (ta : TA) : TS := fun D σ H => ta σ H fun vs H1 => ∃ v w, vs = [v, w] ∧ D.nx ((σ.set i (some v)).set j (some w)) H1
/-- name op= e -/
def tAug (i : Nat) (te : TE) (ti : TIp) : TS := fun D σ H => ∃ x, σ[i]? = some (some x) ∧ te σ H fun y H1 => ti x y H1 fun z H2 => D.nx (σ.set i (some z)) H2
theorem ps_aug {i : Nat} {x : Str} {e : Expr} {te : TE} {op : Operator} {ti : TIp} {pos' : Pos} (hN : X.N.Nodup) (hi : X.N[i]? = some x) (hx : Loc X.env.scope x) (he : PE X e te) (ho : PIp X op ti) (hf : X.fn x = true ∨ X.env.scope.names.lookup x = some .local := by first | exact .inl rfl | exact .inr rfl | assumption) :
    PS X (.AugAssign (.Name x pos') op e pos) (tAug i te ti) := by
  intro pins s σ H D I h
  obtain ⟨v, e1, h⟩ := h
  obtain ⟨m, hn, hl⟩ := I.loc
  have vis : Vis X.env.scope x := by rcases hx with k | k; exact .inl k; exact .inr (.inl k)
  obtain ⟨u, r, l⟩ := hl i x v hi e1 vis
  refine wpAny_AugAssign_Name ?_
  have go : wpAny (model X.prog X.w) X.A (eval e X.env) (fun w s₂ => wpAny (model X.prog X.w) X.A (inplaceOp op u w) (fun r s₃ => wpAny (model X.prog X.w) X.A (storeName X.env x r) (fun _ => SP X pins D .next) X.xe s₃) X.xe s₂) X.xe s := by
    refine thn (he pins s σ H _ I h) fun w s1 ⟨y, H1, I1, r1, q1⟩ => ?_
    refine thn (ho pins s1 σ H1 v y u w _ I1 r r1 q1) fun z s2 ⟨zv, H2, I2, r2, q2⟩ => ?_
    exact store_ok I2 hN hi hx r2 (fun s3 I3 => (c_EEA _ H2 I3 q2)) hf
  rcases l with ⟨hk, hm⟩ | ⟨hk, c, hc, hcell⟩
  · exact wpAny_loadName_local I.ok.kind hk hn hm go
  · rcases hk with hk | hk
    · exact wpAny_loadName_cell I.ok.kind hk hc hcell go
    · rcases hx with k | k
      · have : X.env.scope.names.lookup x = some .free := hk
        rw [k] at this; cases this
      · have : X.env.scope.names.lookup x = some .free := hk
        rw [k] at this; cases this
/-- o[i] op= e -/
def tAugS (to ti te : TE) (tget : V → V → Hp → VK → Prop) (tip : TIp) (tset : TSet) : TS := fun D σ H => to σ H fun o H1 => ti σ H1 fun i H2 => tget o i H2 fun x H3 => te σ H3 fun y H4 => tip x y H4 fun z H5 => tset o i z H5 fun H6 => D.nx σ H6
/-- o[i], by values -/
def PGet (X : Cx) (t : V → V → Hp → VK → Prop) : Prop :=
  ∀ (pins : List (Addr × Obj)) (s : Shared) (σ : St) (H : Hp) (o i : V) (ov iv : Value) (Q : VK), Inv X pins σ H s → RelV o ov → RelV i iv → t o i H Q →
    wpAny (model X.prog X.w) X.A (getItem ov iv) (EP X pins σ Q) X.xe s
/-- ints -/
def ipI (f : Int → Int → Int) : TIp := fun x y H Q => ∃ i j, x = .int i ∧ y = .int j ∧ Q (.int (f i j)) H
theorem ip_add : PIp X .Add (ipI fun i j => i + j) := by
  intro pins s σ H x y v u Q I r1 r2 h
  obtain ⟨i, j, e1, e2, q⟩ := h
  subst e1; subst e2
  obtain ⟨t, rfl⟩ := r1
  obtain ⟨t', rfl⟩ := r2
  exact iadd_int (c_EEAA (.int _) H (I.tok _) ⟨_, rfl⟩ q)
end

/-! ### while -/
section
variable {X : Cx} {pos : Pos}
/-- the invariant W with its measure -/
def tWhile (c : TT) (tb : TS) : TS := fun D σ H => ∃ W : Nat → St → Hp → Prop, (∃ m, W m σ H) ∧ ∀ m σ H, W m σ H →
  c σ H fun b H1 => if b = true then ∃ N : St → Hp → Prop, (∀ σ' H', N σ' H' → ∃ m', m' < m ∧ W m' σ' H') ∧ tb { D with nx := N, ct := N, bk := D.nx } σ H1 else D.nx σ H1
end

/-! ### what a loop or a comprehension walks -/
/-- at turn i: it yields x (the heap may grow), or it stops -/
structure It where
  go : Nat → Hp → Prop
  yld : Nat → Hp → V → Hp → Prop
  stop : Nat → Hp → Prop
/-- the iterator's own objects may turn: they are not the frame's, not pinned, younger than the entry (or a comprehension's own) -/
def FpOk (X : Cx) (pins : List (Addr × Obj)) (H : Hp) (b : Addr) : Prop :=
  H b = none ∧ b ≠ X.env.locals ∧ b ∉ X.fs ∧ (b ∈ X.ex ∨ X.s₀.heap.objs.size ≤ b) ∧ (∀ x c, X.env.cells.lookup x = some c → c ≠ b) ∧ ∀ p ∈ X.pn ++ pins, p.1 ≠ b
theorem Inv.fpOk {X : Cx} {pins : List (Addr × Obj)} {σ : St} {H H' : Hp} {s : Shared} {b : Addr} (I : Inv X pins σ H s) (hb : s.heap.objs.size ≤ b) (hn : H' b = none) : FpOk X pins H' b := by
  refine (c_AAAAA hn (Nat.ne_of_gt (Nat.lt_of_lt_of_le I.lt hb)) (I.nofs hb) (.inr (Nat.le_trans I.sz hb)) (fun x c e z => ?_) (fun p hp z => ?_))
  · obtain ⟨v, q⟩ := I.cell x c e
    exact absurd (Nat.lt_of_lt_of_le q.lt (by rw [z]; exact hb)) (Nat.lt_irrefl _)
  · exact absurd (Nat.lt_of_lt_of_le (Heap.lt_size (I.pin p hp).1) (by rw [z]; exact hb)) (Nat.lt_irrefl _)
structure Turn (P : Program) (w : World) (K : PySem.W.Frag) (tg : Expr) (J : It) (fp : List Addr) (it : Addr) (tn : Nat → Heap → Prop) : Prop where
  mem : it ∈ fp
  obj : ∀ i h, tn i h → ∀ b ∈ fp, ∃ o, h.get? b = some o ∧ ∀ v, o.data ≠ .cell v
  keep : ∀ i h h', tn i h → (∀ b ∈ fp, ∀ o, h.get? b = some o → h'.get? b = some o) → tn i h'
  item : ∀ (X : Cx), X.prog = P → X.w = w → X.K = K → X.calm = true → ∀ (i : Nat) (pins : List (Addr × Obj)) (s : Shared) (σ : St) (H : Hp) (E : Value → Shared → Prop), Inv X pins σ H s → (∀ b ∈ fp, FpOk X pins H b) → tn i s.heap → J.go i H →
    wpAny (model P w) X.A (pyNext (.ref it)) (fun r s1 => ∃ u, r = some u ∧
      wpAny (model P w) X.A (letOwnedTupleGo tg (.ref it) u) (fun _ s2 => ∃ x H', Inv X pins σ H' s2 ∧ RelV x u ∧ J.yld i H x H' ∧ tn (i + 1) s2.heap ∧ ∀ b ∈ fp, H' b = none) E s1) E s
  done : ∀ (X : Cx), X.prog = P → X.w = w → X.K = K → X.calm = true → ∀ (i : Nat) (pins : List (Addr × Obj)) (s : Shared) (σ : St) (H : Hp) (E : Value → Shared → Prop), Inv X pins σ H s → (∀ b ∈ fp, FpOk X pins H b) → tn i s.heap → J.stop i H →
    wpAny (model P w) X.A (pyNext (.ref it)) (fun r s1 => r = none ∧ Inv X pins σ H s1) E s
  self : ∀ (A : Around) (i : Nat) (s : Shared) (Q : Value → Shared → Prop) (E : Value → Shared → Prop), tn i s.heap → Q (.ref it) s → wpAny (model P w) A (pyIter (.ref it)) Q E s
abbrev TI := St → Hp → (It → Hp → Prop) → Prop
/-- an iterator has come -/
def PIE (X : Cx) (pins : List (Addr × Obj)) (σ : St) (tg : Expr) (R : It → Hp → Prop) (itv : Value) (s2 : Shared) : Prop :=
  ∃ (it : Addr) (fp : List Addr) (tn : Nat → Heap → Prop) (J : It) (H' : Hp), itv = .ref it ∧ Inv X pins σ H' s2 ∧ Turn X.prog X.w X.K tg J fp it tn ∧ tn 0 s2.heap ∧ (∀ b ∈ fp, FpOk X pins H' b) ∧ R J H'
def PI (X : Cx) (tg iter : Expr) (wi : TI) : Prop :=
  ∀ (pins : List (Addr × Obj)) (s : Shared) (σ : St) (H : Hp) (R : It → Hp → Prop), Inv X pins σ H s → wi σ H R →
    wpAny (model X.prog X.w) X.A (eval iter X.env) (fun v s1 => wpAny (model X.prog X.w) X.A (pyIter v) (PIE X pins σ tg R) X.xe s1) X.xe s

/-- the step ahead of the store is nothing for an iterator that keeps no tuple -/
theorem go_of {M : Model} {A : Around} {E : Value → Shared → Prop} {s : Shared} {tg : Expr} {it : Addr} {u : Value} {o : Obj} {n : String} {vs : Array Value} {Q : Unit → Shared → Prop} (ho : s.heap.get? it = some o) (hc : o.cls = .type n) (hd : o.data = .fields vs)
    (hn : ["enumerate", "zip", "dict_itemiterator", "dict_reverseitemiterator", "odict_iterator", "itertools.zip_longest", "itertools.pairwise"].contains n = false) (hQ : Q () s) : wpAny M A (letOwnedTupleGo tg (.ref it) u) Q E s := by
  unfold letOwnedTupleGo
  cases tg <;> first
    | exact wpAny_pure hQ
    | (cases u <;> first
        | exact wpAny_pure hQ
        | (refine wpAny_bind (wpAny_load ho ?_)
           rw [hc, hd]
           show wpAny M A (if (["enumerate", "zip", "dict_itemiterator", "dict_reverseitemiterator", "odict_iterator", "itertools.zip_longest", "itertools.pairwise"].contains n && vs[0]? == some (rawInt _)) = true then _ else _) Q E s
           rw [if_neg (by intro h; rw [hn, Bool.false_and] at h; cases h)]
           exact wpAny_pure hQ))

/-- the list at a, as it stands at each turn (a loop may append to it) -/
def Itl (K : PySem.W.Frag) (a : Addr) : It :=
  ⟨fun i H => ∃ xs x, SqL K H a xs ∧ xs[i]? = some x, fun i H x H' => H' = H ∧ ∀ xs, SqL K H a xs → xs[i]? = some x, fun i H => ∃ xs, SqL K H a xs ∧ xs.length ≤ i⟩
def Itt (K : PySem.W.Frag) (a : Addr) : It :=
  ⟨fun i H => ∃ xs x, SqT K H a xs ∧ xs[i]? = some x, fun i H x H' => H' = H ∧ ∀ xs, SqT K H a xs → xs[i]? = some x, fun i H => ∃ xs, SqT K H a xs ∧ xs.length ≤ i⟩
/-- lo, lo + 1, .. (n of them) -/
def Itr (lo : Int) (n : Nat) : It := ⟨fun i _ => i < n, fun i H x H' => H' = H ∧ x = .int (lo + i), fun i _ => n ≤ i⟩
theorem turn_list {P : Program} {w : World} {K : PySem.W.Frag} {tg : Expr} (a it : Addr) : Turn P w K tg (Itl K a) [it] it (fun i h => h.IsListIter it a i) where
  mem := by simp
  obj := fun i h st b hb => by
    have e : b = it := by simpa using hb
    subst e
    obtain ⟨o, e, c, d⟩ := st
    exact (c_EA o e (fun v z => by rw [d] at z; cases z))
  keep := fun i h h' st k => st.at fun o e => k it (by simp) o e
  item := by
    intro X hP hw hK hc i pins s σ H E I hf st hg
    subst hP hw hK
    obtain ⟨xs, x, hq, hx⟩ := hg
    obtain ⟨its, rv, p, hz⟩ := I.list hq
    obtain ⟨u, hu, ru⟩ := rv.get hx
    obtain ⟨f0, f1, f2, f3, f4, f5⟩ := hf it (by simp)
    refine wpAny_pyNext_list_item st p.isList (x := u) (by simpa using hu) fun h' st' sb => ?_
    have I1 : Inv X pins σ H { s with heap := h' } := I.turned (t' := s.toks) (fun b o hb e => (sb.2 b hb).trans e) f0 f1 f3 f4 f5
    obtain ⟨o, e, c, d⟩ := id st'
    exact (c_EA u rfl (go_of (s := { s with heap := h' }) e c d (by decide) (c_EEAAAA x H I1 ru ⟨rfl, fun ys hy => by rw [I.list_inj hy hq]; exact hx⟩ st' (fun b hb => (hf b hb).1))))
  done := by
    intro X hP hw hK hc i pins s σ H E I hf st hg
    subst hP hw hK
    obtain ⟨xs, hq, hx⟩ := hg
    obtain ⟨its, rv, p, hz⟩ := I.list hq
    obtain ⟨f0, f1, f2, f3, f4, f5⟩ := hf it (by simp)
    have hl := rv.length
    exact wpAny_pyNext_list_end (I.ok.hd hc) st p.isList (by simp; omega) fun h' eb => ⟨rfl, I.turned (t' := s.toks) (fun b o hb e => eb b o hb e) f0 f1 f3 f4 f5⟩
  self := fun _ _ _ _ _ st h => wpAny_pyIter_listiter st h
theorem turn_tuple {P : Program} {w : World} {K : PySem.W.Frag} {tg : Expr} (a it : Addr) : Turn P w K tg (Itt K a) [it] it (fun i h => h.IsTupleIter it a i) where
  mem := by simp
  obj := fun i h st b hb => by
    have e : b = it := by simpa using hb
    subst e
    obtain ⟨o, e, c, d⟩ := st
    exact (c_EA o e (fun v z => by rw [d] at z; cases z))
  keep := fun i h h' st k => st.at fun o e => k it (by simp) o e
  item := by
    intro X hP hw hK hc i pins s σ H E I hf st hg
    subst hP hw hK
    obtain ⟨xs, x, hq, hx⟩ := hg
    obtain ⟨its, rv, p, hz⟩ := I.tuple hq
    obtain ⟨u, hu, ru⟩ := rv.get hx
    obtain ⟨f0, f1, f2, f3, f4, f5⟩ := hf it (by simp)
    refine wpAny_pyNext_tuple_item st (show s.heap.IsTuple a its.toArray from p) (x := u) (by simpa using hu) fun h' st' sb => ?_
    have I1 : Inv X pins σ H { s with heap := h' } := I.turned (t' := s.toks) (fun b o hb e => (sb.2 b hb).trans e) f0 f1 f3 f4 f5
    obtain ⟨o, e, c, d⟩ := id st'
    exact (c_EA u rfl (go_of (s := { s with heap := h' }) e c d (by decide) (c_EEAAAA x H I1 ru ⟨rfl, fun ys hy => by rw [I.tuple_inj hy hq]; exact hx⟩ st' (fun b hb => (hf b hb).1))))
  done := by
    intro X hP hw hK hc i pins s σ H E I hf st hg
    subst hP hw hK
    obtain ⟨xs, hq, hx⟩ := hg
    obtain ⟨its, rv, p, hz⟩ := I.tuple hq
    obtain ⟨f0, f1, f2, f3, f4, f5⟩ := hf it (by simp)
    have hl := rv.length
    exact wpAny_pyNext_tuple_end (I.ok.hd hc) st (show s.heap.IsTuple a its.toArray from p) (by simp; omega) fun h' eb => ⟨rfl, I.turned (t' := s.toks) (fun b o hb e => eb b o hb e) f0 f1 f3 f4 f5⟩
  self := fun _ _ _ _ _ st h => wpAny_pyIter_tupleiter st h
theorem turn_range {P : Program} {w : World} {K : PySem.W.Frag} {tg : Expr} (it : Addr) (lo : Int) (n : Nat) : Turn P w K tg (Itr lo n) [it] it (fun i h => IsRangeIter h it (lo + (i : Nat) * 1) ((n : Int) - (i : Nat)) 1) where
  mem := by simp
  obj := fun i h st b hb => by
    have e : b = it := by simpa using hb
    subst e
    exact (c_EA _ st (fun v z => by
      have z' : Data.fields _ = Data.cell v := z
      cases z'))
  keep := fun i h h' st k => k it (by simp) _ st
  item := by
    intro X hP hw hK hc i pins s σ H E I hf st hg
    subst hP hw hK
    obtain ⟨f0, f1, f2, f3, f4, f5⟩ := hf it (by simp)
    have W := Walks.range (prog := X.prog) (w := X.w) (I.ok.hd hc) it lo 1 n
    refine W.item i s _ _ hg st fun v h' tk hv st' kk => ?_
    obtain ⟨t, rfl⟩ := hv
    have I1 : Inv X pins σ H { s with heap := h', toks := tk } := I.turned (fun b o hb e => kk b o (by simpa using hb) e) f0 f1 f3 f4 f5
    refine (c_EA _ rfl (go_of (s := { s with heap := h', toks := tk }) (n := "range_iterator") st' rfl rfl (by decide) (c_EEAAAA (.int (lo + i)) H I1 ⟨t, ?_⟩ ⟨rfl, rfl⟩ st' (fun b hb => (hf b hb).1))))
    rw [Int.mul_one]
  done := by
    intro X hP hw hK hc i pins s σ H E I hf st hg
    subst hP hw hK
    obtain ⟨f0, f1, f2, f3, f4, f5⟩ := hf it (by simp)
    exact wpAny_pyNext_range_end (I.ok.hd hc) st (by have : n ≤ i := hg; omega) fun h' eb => ⟨rfl, I.turned (t' := s.toks) (fun b o hb e => eb b o hb e) f0 f1 f3 f4 f5⟩
  self := fun _ _ _ _ _ st h => wpAny_pyIter_rangeiter st h
end L2

namespace L2
open PySem PySem.Spec PyProof.Rows
section
variable {X : Cx} {tg : Expr}
def iList (K : PySem.W.Frag) (tl : TE) : TI := fun σ H R => tl σ H fun x H1 => ∃ a, x = .ref a ∧ (∃ xs, SqL K H1 a xs) ∧ R (Itl K a) H1
def iTup (K : PySem.W.Frag) (tl : TE) : TI := fun σ H R => tl σ H fun x H1 => ∃ a, x = .ref a ∧ (∃ xs, SqT K H1 a xs) ∧ R (Itt K a) H1
theorem pi_list {l : Expr} {tl : TE} (hl : PE X l tl) : PI X tg l (iList X.K tl) := by
  intro pins s σ H R I h
  refine thn (hl pins s σ H _ I h) fun v s1 ⟨x, H1, I1, r1, q1⟩ => ?_
  obtain ⟨a, e, ⟨xs, hq⟩, q⟩ := q1
  subst e
  cases r1
  obtain ⟨its, rv, p, hz⟩ := I1.list hq
  refine wpAny_pyIter_list p.isList ?_
  refine (c_EEEEEAAAAA s1.heap.objs.size ([s1.heap.objs.size]) _ _ H1 rfl (I1.kept (t' := s1.toks) fun b o e => Heap.get?_push_of_some _ e) (turn_list a _) (c_EAA _ (Heap.get?_push_size _ rfl) rfl rfl) (fun b hb => ?_) q)
  have e : b = s1.heap.objs.size := by simpa using hb
  subst e
  exact I1.fpOk (Nat.le_refl _) (I1.hok.fresh (Nat.le_refl _))
theorem pi_tup {l : Expr} {tl : TE} (hl : PE X l tl) : PI X tg l (iTup X.K tl) := by
  intro pins s σ H R I h
  refine thn (hl pins s σ H _ I h) fun v s1 ⟨x, H1, I1, r1, q1⟩ => ?_
  obtain ⟨a, e, ⟨xs, hq⟩, q⟩ := q1
  subst e
  cases r1
  obtain ⟨its, rv, p, hz⟩ := I1.tuple hq
  refine wpAny_pyIter_tuple (show s1.heap.IsTuple a its.toArray from p) ?_
  refine (c_EEEEEAAAAA s1.heap.objs.size ([s1.heap.objs.size]) _ _ H1 rfl (I1.kept (t' := s1.toks) fun b o e => Heap.get?_push_of_some _ e) (turn_tuple a _) (c_EAA _ (Heap.get?_push_size _ rfl) rfl rfl) (fun b hb => ?_) q)
  have e : b = s1.heap.objs.size := by simpa using hb
  subst e
  exact I1.fpOk (Nat.le_refl _) (I1.hok.fresh (Nat.le_refl _))
/-- a range object just made, walked -/
theorem range_it {pins : List (Addr × Obj)} {σ : St} {H : Hp} {s : Shared} {R : It → Hp → Prop} {E : Value → Shared → Prop} {lo hi : Int} {t u v : Tok} {tk : Nat} (I : Inv X pins σ H s) (h1 : -(2 ^ 62) ≤ lo) (h2 : lo < 2 ^ 62) (h3 : -(2 ^ 62) ≤ hi) (h4 : hi < 2 ^ 62)
    (q : R (Itr lo (hi - lo).toNat) H) : wpAny (model X.prog X.w) X.A (pyIter (.ref s.heap.objs.size)) (PIE X pins σ tg R) E { s with heap := s.heap.push { cls := .type "range", data := .fields #[.int lo t, .int hi u, .int 1 v] }, toks := tk } := by
  refine wpAny_pyIter_range (IsRange.new ..) (small_one h1 h2 h3 h4) ?_
  have I1 : Inv X pins σ H { s with heap := s.heap.push { cls := .type "range", data := .fields #[.int lo t, .int hi u, .int 1 v] }, toks := tk } := I.kept fun b o e => Heap.get?_push_of_some _ e
  refine (c_EEEEEAAAAA ((s.heap.push { cls := .type "range", data := .fields #[.int lo t, .int hi u, .int 1 v] }).objs.size) ([(s.heap.push { cls := .type "range", data := .fields #[.int lo t, .int hi u, .int 1 v] }).objs.size]) _ _ H rfl (I1.kept (t' := tk) fun b o e => Heap.get?_push_of_some _ e) (turn_range _ lo (hi - lo).toNat) ?_ (fun b hb => ?_) q)
  · have e1 : lo + ((0 : Nat) : Int) * 1 = lo := by simp
    have e2 : (((hi - lo).toNat : Nat) : Int) - ((0 : Nat) : Int) = Builtin.Range.rangeSize lo hi 1 := by rw [rangeSize_one]; split <;> omega
    show IsRangeIter _ _ (lo + ((0 : Nat) : Int) * 1) ((((hi - lo).toNat : Nat) : Int) - ((0 : Nat) : Int)) 1
    rw [e1, e2]
    exact Heap.get?_push_size _ rfl
  · have e : b = (s.heap.push { cls := .type "range", data := .fields #[.int lo t, .int hi u, .int 1 v] }).objs.size := by simpa using hb
    subst e
    exact I1.fpOk (Nat.le_refl _) (I1.hok.fresh (Nat.le_refl _))
def iRng1 (ta : TA) : TI := fun σ H R => ta σ H fun vs H1 => ∃ j : Int, vs = [.int j] ∧ -(2 ^ 62) ≤ j ∧ j < 2 ^ 62 ∧ R (Itr 0 j.toNat) H1
def iRng2 (ta : TA) : TI := fun σ H R => ta σ H fun vs H1 => ∃ i j : Int, vs = [.int i, .int j] ∧ (-(2 ^ 62) ≤ i ∧ i < 2 ^ 62 ∧ -(2 ^ 62) ≤ j ∧ j < 2 ^ 62) ∧ R (Itr i (j - i).toNat) H1
theorem pi_range1 {a : Expr} {ta : TA} {p pos : Pos} (hg : Gl X "range") (hm : X.mg "range" = none) (ha : PA X [a] ta) (hs : starEach [a] X.env = [(false, eval a X.env)] := by rfl) : PI X tg (.Call (.Name "range" p) [a] [] pos) (iRng1 ta) := by
  intro pins s σ H R I h
  refine Call_ (ld_blt I hg hm boot_range (PyProof.Rows.callWith_type1 (thn (ha pos pins s σ H _ I h) fun us s1 ⟨vs, H1, I1, r1, q1⟩ => ?_) hs rfl))
  obtain ⟨j, e, q1, q2, q⟩ := q1
  subst e
  cases r1 with
  | cons r rr =>
    cases rr
    obtain ⟨t, rfl⟩ := r
    exact call_range_1 (range_it I1 (by omega) (by omega) q1 q2 (by simpa using q))

/-! ### for -/
/-- W: the invariant by the turn and a measure; N: what the body is to reach -/
def tFor (wi : TI) (g : TG) (tb : TS) : TS := fun D σ H => wi σ H fun J H1 => ∃ W : Nat → Nat → St → Hp → Prop, (∃ m, W 0 m σ H1) ∧ ∀ i m σ H, W i m σ H →
  (J.stop i H ∧ D.nx σ H) ∨ (J.go i H ∧ ∃ N : St → Hp → Prop, (∀ σ' H', N σ' H' → ∃ m', m' < m ∧ W (i + 1) m' σ' H') ∧ ∀ x H', J.yld i H x H' → g x σ H' fun σ2 H2 => tb { D with nx := N, ct := N, bk := D.nx } σ2 H2)
/-- the records at fp as they stand -/
def pinsAt (fp : List Addr) (h : Heap) : List (Addr × Obj) := fp.filterMap fun b => (h.get? b).map fun o => (b, o)
theorem mem_pinsAt {fp : List Addr} {h : Heap} {b : Addr} {o : Obj} (hb : b ∈ fp) (e : h.get? b = some o) : (b, o) ∈ pinsAt fp h := List.mem_filterMap.mpr (c_EA b hb (by rw [e]; rfl))
theorem of_pinsAt {fp : List Addr} {h : Heap} {p : Addr × Obj} (hp : p ∈ pinsAt fp h) : p.1 ∈ fp ∧ h.get? p.1 = some p.2 := by
  obtain ⟨b, hb, e⟩ := List.mem_filterMap.mp hp
  cases q : h.get? b with
  | none => rw [q] at e; cases e
  | some o =>
    rw [q] at e
    have e' : (b, o) = p := Option.some.inj e
    subst e'
    exact ⟨hb, q⟩
theorem Inv.pinned {pins : List (Addr × Obj)} {σ : St} {H : Hp} {s : Shared} {fp : List Addr} (I : Inv X pins σ H s) (hf : ∀ b ∈ fp, FpOk X pins H b) (ho : ∀ b ∈ fp, ∃ o, s.heap.get? b = some o ∧ ∀ v, o.data ≠ .cell v) : Inv X (pins ++ pinsAt fp s.heap) σ H s :=
  I.pins_of fun p hp => (List.mem_append.mp hp).elim (fun z => I.pin p (List.mem_append_right _ z)) fun z => by
    obtain ⟨hb, e⟩ := of_pinsAt z
    obtain ⟨f0, f1, f2, _⟩ := hf p.1 hb
    obtain ⟨o, e', d⟩ := ho p.1 hb
    rw [e] at e'; cases e'
    exact (c_AAAA e f0 f1 f2 d)
theorem Inv.unpinned {pins pl : List (Addr × Obj)} {σ : St} {H : Hp} {s : Shared} (I : Inv X (pins ++ pl) σ H s) : Inv X pins σ H s := I.pins_of fun p hp => I.pin p (List.mem_append_right _ (List.mem_append_left _ hp))
theorem ps_for {iter : Expr} {body : List Stmt} {wi : TI} {g : TG} {tb : TS} {pos : Pos} (hp : PassesOwn (model X.prog X.w) X.A X.env X.xe) (hc : X.calm = true) (hi : PI X tg iter wi) (hg : PG X tg g) (hb : PSs X body tb)
    (hs : ∀ x, foldedSetIterable iter X.env x = pure x := by intro _; rfl) : PS X (.For tg iter body [] pos) (tFor wi g tb) := by
  intro pins s σ H D I h
  refine wpAny_For (thn (hi pins s σ H _ I h) fun v s1 h1 => thn h1 fun itv s2 h2 => ?_) hs
  obtain ⟨it, fp, tn, J, H2, e, I2, T, st2, f2, W, ⟨m0, w0⟩, turn⟩ := h2
  subst e
  -- what stays true of the iterator's objects through the loop
  have stat : ∀ {H' : Hp}, (∀ b ∈ fp, H' b = none) → ∀ b ∈ fp, FpOk X pins H' b := fun hn b hb => ⟨hn b hb, (f2 b hb).2⟩
  refine codeAny_forLoop_any (fun n s' => ∃ i σ' H', Inv X pins σ' H' s' ∧ tn i s'.heap ∧ (∀ b ∈ fp, H' b = none) ∧ W i n σ' H') ?_ m0 (c_EEEAAA 0 σ H2 I2 st2 (fun b hb => (f2 b hb).1) w0)
  rintro n s3 ⟨i, σ3, H3, I3, st3, fr3, w3⟩
  rcases turn i n σ3 H3 w3 with ⟨stop, qn⟩ | ⟨go, N, hN, step⟩
  · refine wpAny_passesOwn hp (thn (T.done X rfl rfl rfl hc i pins s3 σ3 H3 X.xe I3 (stat fr3) st3 stop) fun r s4 ⟨hr, I4⟩ => ?_)
    subst hr
    exact wpAny_execs_nil (c_EEA σ3 H3 I4 qn)
  · refine wpAny_passesOwn hp (thn (T.item X rfl rfl rfl hc i pins s3 σ3 H3 X.xe I3 (stat fr3) st3 go) fun r s4 ⟨u, hr, h4⟩ => ?_)
    subst hr
    refine wpAny_passesOwn hp (thn h4 fun _ s5 ⟨x, H5, I5, r5, y5, st5, fr5⟩ => ?_)
    have I5' := I5.pinned (stat fr5) (T.obj _ _ st5)
    refine wpAny_passesOwn hp (thn (hg _ s5 σ3 H5 x u _ I5' r5 (step x H5 y5)) fun _ s6 ⟨σ6, H6, I6, q6⟩ => ?_)
    refine wpAny_passesOwn hp (thn (hb _ s6 σ6 H6 _ I6 q6) fun f s7 q7 => ?_)
    have again : ∀ {σ7 : St} {H7 : Hp}, Inv X (pins ++ pinsAt fp s5.heap) σ7 H7 s7 → N σ7 H7 → ∃ m, m < n ∧ ∃ i σ' H', Inv X pins σ' H' s7 ∧ tn i s7.heap ∧ (∀ b ∈ fp, H' b = none) ∧ W i m σ' H' := fun {σ7 H7} I7 n7 => by
      obtain ⟨m', hm, w7⟩ := hN σ7 H7 n7
      refine (c_EAEEEAAA m' hm (i + 1) σ7 H7 I7.unpinned (T.keep _ _ _ st5 fun b hb o e => (I7.pin (b, o) (List.mem_append_right _ (List.mem_append_right _ (mem_pinsAt hb e)))).1) (fun b hb => ?_) w7)
      obtain ⟨o, e, d⟩ := T.obj _ _ st5 b hb
      exact (I7.pin (b, o) (List.mem_append_right _ (List.mem_append_right _ (mem_pinsAt hb e)))).2.1
    cases f with
    | next => obtain ⟨σ7, H7, I7, n7⟩ := q7; exact again I7 n7
    | cont => obtain ⟨σ7, H7, I7, n7⟩ := q7; exact again I7 n7
    | brk => obtain ⟨σ7, H7, I7, q7⟩ := q7; exact (c_EEA σ7 H7 I7.unpinned q7)
    | ret v => obtain ⟨x7, σ7, H7, I7, r7, q7⟩ := q7; exact (c_EEEAA x7 σ7 H7 I7.unpinned r7 q7)
end

/-! ### the forms one uses -/
end L2

namespace L2
open PySem PySem.Spec PyProof.Rows

abbrev R2 := V → V → Hp → VK → Prop
/-- a two-place operation on values: f is binaryOp op, inplaceOp op or compareOp op -/
def OpR (X : Cx) (f : Value → Value → Sem Value) (r : R2) : Prop :=
  ∀ (pins : List (Addr × Obj)) (s : Shared) (σ : St) (H : Hp) (x y : V) (v u : Value) (Q : VK), Inv X pins σ H s → RelV x v → RelV y u → r x y H Q →
    wpAny (model X.prog X.w) X.A (f v u) (EP X pins σ Q) X.xe s
/-- a one-place operation -/
def UnR (X : Cx) (f : Value → Sem Value) (r : V → Hp → VK → Prop) : Prop :=
  ∀ (pins : List (Addr × Obj)) (s : Shared) (σ : St) (H : Hp) (x : V) (v : Value) (Q : VK), Inv X pins σ H s → RelV x v → r x H Q →
    wpAny (model X.prog X.w) X.A (f v) (EP X pins σ Q) X.xe s
/-- a call of a value that is known (a builtin, a type) with values -/
def CallR (X : Cx) (f : Value) (r : List V → Hp → VK → Prop) : Prop :=
  ∀ (pins : List (Addr × Obj)) (s : Shared) (σ : St) (H : Hp) (xs : List V) (us : List Value) (Q : VK), Inv X pins σ H s → Vals xs us → r xs H Q →
    wpAny (model X.prog X.w) X.A (call f us) (EP X pins σ Q) X.xe s
/-- a value's truth -/
def TruR (X : Cx) (r : V → Hp → (Bool → Hp → Prop) → Prop) : Prop :=
  ∀ (pins : List (Addr × Obj)) (s : Shared) (σ : St) (H : Hp) (x : V) (v : Value) (Q : Bool → Hp → Prop), Inv X pins σ H s → RelV x v → r x H Q →
    wpAny (model X.prog X.w) X.A (truthy v) (TP X pins σ Q) X.xe s

def tOp (r : R2) (ta tb : TE) : TE := fun σ H Q => ta σ H fun x H1 => tb σ H1 fun y H2 => r x y H2 Q
def tUn (r : V → Hp → VK → Prop) (ta : TE) : TE := fun σ H Q => ta σ H fun x H1 => r x H1 Q
/-- ints in, under C, and a value out -/
def rI (C : Int → Int → Prop) (g : Int → Int → V) : R2 := fun x y H Q => ∃ i j, x = .int i ∧ y = .int j ∧ C i j ∧ Q (g i j) H
def rI0 (g : Int → Int → V) : R2 := fun x y H Q => ∃ i j, x = .int i ∧ y = .int j ∧ Q (g i j) H
def rU (g : Int → V) : V → Hp → VK → Prop := fun x H Q => ∃ i, x = .int i ∧ Q (g i) H

section
variable {X : Cx} {a b c : Expr} {ta tb tc : TE} {pos : Pos}

theorem binT (ha : PE X a ta) (hb : PE X b tb) {pins : List (Addr × Obj)} {s : Shared} {σ : St} {H : Hp} {R : V → V → Hp → Prop} (I : Inv X pins σ H s)
    (h : ta σ H fun x H1 => tb σ H1 fun y H2 => R x y H2) {Q : Value → Shared → Prop} {f : Value → Value → Sem Value}
    (hf : ∀ v u s2 x y H2, Inv X pins σ H2 s2 → RelV x v → RelV y u → R x y H2 → wpAny (model X.prog X.w) X.A (f v u) Q X.xe s2) :
    wpAny (model X.prog X.w) X.A (eval a X.env) (fun v s₁ => wpAny (model X.prog X.w) X.A (eval b X.env) (fun u s₂ => wpAny (model X.prog X.w) X.A (f v u) Q X.xe s₂) X.xe s₁) X.xe s := by
  refine thn (ha pins s σ H _ I h) fun v s1 ⟨x, H1, I1, r1, q1⟩ => ?_
  refine thn (hb pins s1 σ H1 _ I1 q1) fun u s2 ⟨y, H2, I2, r2, q2⟩ => ?_
  exact hf v u s2 x y H2 I2 r1 r2 q2

theorem pe_op {op : Operator} {r : R2} (ho : OpR X (binaryOp op) r) (ha : PE X a ta) (hb : PE X b tb) : PE X (.BinOp a op b pos) (tOp r ta tb) := by
  intro pins s σ H Q I h
  exact wpAny_BinOp (binT ha hb I h fun v u s2 x y H2 I2 rx ry q => ho pins s2 σ H2 x y v u Q I2 rx ry q)
theorem pe_un {op : UnaryOp} {r : V → Hp → VK → Prop} (ho : UnR X (unaryOp op) r) (ha : PE X a ta) : PE X (.UnaryOp op a pos) (tUn r ta) := by
  intro pins s σ H Q I h
  exact UnaryOp_ (thn (ha pins s σ H _ I h) fun v s1 ⟨x, H1, I1, r1, q1⟩ => ho pins s1 σ H1 x v Q I1 r1 q1)

/-! ### ints -/
theorem opI {f : Value → Value → Sem Value} {C : Int → Int → Prop} {g : Int → Int → Int}
    (rule : ∀ (i j : Int) (t u : Tok) (s : Shared) (Q : Value → Shared → Prop) (E : Value → Shared → Prop), C i j → Q (.int (g i j) s.toks) { s with toks := s.toks + 1 } → wpAny (model X.prog X.w) X.A (f (.int i t) (.int j u)) Q E s) :
    OpR X f (rI C fun i j => .int (g i j)) := by
  intro pins s σ H x y v u Q I rx ry h
  obtain ⟨i, j, rfl, rfl, hc, q⟩ := h
  obtain ⟨t, rfl⟩ := rx
  obtain ⟨t', rfl⟩ := ry
  exact rule i j t t' s _ _ hc (c_EEAA (.int (g i j)) H (I.tok _) ⟨_, rfl⟩ q)
theorem opI0 {f : Value → Value → Sem Value} {g : Int → Int → Int}
    (rule : ∀ (i j : Int) (t u : Tok) (s : Shared) (Q : Value → Shared → Prop) (E : Value → Shared → Prop), Q (.int (g i j) s.toks) { s with toks := s.toks + 1 } → wpAny (model X.prog X.w) X.A (f (.int i t) (.int j u)) Q E s) :
    OpR X f (rI0 fun i j => .int (g i j)) := by
  intro pins s σ H x y v u Q I rx ry h
  obtain ⟨i, j, rfl, rfl, q⟩ := h
  obtain ⟨t, rfl⟩ := rx
  obtain ⟨t', rfl⟩ := ry
  exact rule i j t t' s _ _ (c_EEAA (.int (g i j)) H (I.tok _) ⟨_, rfl⟩ q)
theorem opB0 {f : Value → Value → Sem Value} {g : Int → Int → Bool}
    (rule : ∀ (i j : Int) (t u : Tok) (s : Shared) (Q : Value → Shared → Prop) (E : Value → Shared → Prop), Q (.bool (g i j)) s → wpAny (model X.prog X.w) X.A (f (.int i t) (.int j u)) Q E s) :
    OpR X f (rI0 fun i j => .bl (g i j)) := by
  intro pins s σ H x y v u Q I rx ry h
  obtain ⟨i, j, rfl, rfl, q⟩ := h
  obtain ⟨t, rfl⟩ := rx
  obtain ⟨t', rfl⟩ := ry
  exact rule i j t t' s _ _ (c_EEAA (.bl (g i j)) H I rfl q)

def CDiv (i j : Int) : Prop := 0 < j ∧ j < 1073741824
def CDivN (i j : Int) : Prop := j ≠ 0 ∧ j.natAbs < 1073741824
def CPow (i j : Int) : Prop := 0 ≤ j ∧ j ≤ 1000000 ∧ i.natAbs < 2 ^ 64
def CMul (i j : Int) : Prop := (-(2 ^ 64) < i ∧ i < 2 ^ 64) ∨ (-(2 ^ 64) < j ∧ j < 2 ^ 64)

theorem op_add : OpR X (binaryOp .Add) (rI0 fun i j => .int (i + j)) := opI0 fun _ _ _ _ _ _ _ q => add_int q
theorem op_sub : OpR X (binaryOp .Sub) (rI0 fun i j => .int (i - j)) := opI0 fun _ _ _ _ _ _ _ q => sub_int q
/-- // by a positive divisor -/
theorem op_fdiv : OpR X (binaryOp .FloorDiv) (rI CDiv fun i j => .int (i / j)) := opI fun i j _ _ _ _ _ hc q => by
  have h1 : (0 : Int) < j := hc.1
  have h2 : j < 1073741824 := hc.2
  exact floordiv_int (by omega) (by rw [Int.fdiv_eq_ediv_of_nonneg i (by omega)]; exact q) (.inl (PyProof.noPylong_small (by omega)))
/-- % by a positive divisor of any size -/
theorem op_mod : OpR X (binaryOp .Mod) (rI (fun _ j => 0 < j) fun i j => .int (i % j)) := opI fun i j _ _ _ _ _ hc q => by
  have h1 : (0 : Int) < j := hc
  exact mod_int' (by omega) (by rw [Int.fmod_eq_emod_of_nonneg i (by omega)]; exact q)


theorem unI {f : Value → Sem Value} {g : Int → Int}
    (rule : ∀ (i : Int) (t : Tok) (s : Shared) (Q : Value → Shared → Prop) (E : Value → Shared → Prop), Q (.int (g i) s.toks) { s with toks := s.toks + 1 } → wpAny (model X.prog X.w) X.A (f (.int i t)) Q E s) :
    UnR X f (rU fun i => .int (g i)) := by
  intro pins s σ H x v Q I rx h
  obtain ⟨i, rfl, q⟩ := h
  obtain ⟨t, rfl⟩ := rx
  exact rule i t s _ _ (c_EEAA (.int (g i)) H (I.tok _) ⟨_, rfl⟩ q)
theorem un_neg : UnR X (unaryOp .USub) (rU fun i => .int (-i)) := unI fun _ _ _ _ _ q => neg_int q

/-! ### bools among ints: n += (a < b) -/
end

/-! ### comparisons -/
/-- the scalars that == tells apart as data does -/
def scal : V → V → Bool
  | .non, .non => true | .non, .int _ => true | .int _, .non => true | .non, .bl _ => true | .bl _, .non => true | .non, .str _ => true | .str _, .non => true
  | .int _, .int _ => true | .bl _, .bl _ => true | .str _, .str _ => true | .byt _, .byt _ => true
  | .int _, .str _ => true | .str _, .int _ => true | .bl _, .str _ => true | .str _, .bl _ => true
  | _, _ => false
def rEq : R2 := fun x y H Q => scal x y = true ∧ Q (.bl (decide (x = y))) H
def rNe : R2 := fun x y H Q => scal x y = true ∧ Q (.bl (!decide (x = y))) H

theorem dec_int {i j : Int} : decide (V.int i = V.int j) = (i == j) := by
  rw [Bool.eq_iff_iff]
  simp
theorem dec_bl {i j : Bool} : decide (V.bl i = V.bl j) = (i == j) := by
  rw [Bool.eq_iff_iff]
  simp
theorem dec_str {i j : Str} : decide (V.str i = V.str j) = (i == j) := by
  rw [Bool.eq_iff_iff]
  simp
theorem dec_byt {i j : Array UInt8} : decide (V.byt i = V.byt j) = (i.toList == j.toList) := by
  rw [Bool.eq_iff_iff]
  cases i
  cases j
  simp

section
variable {X : Cx} {a b c : Expr} {ta tb tc : TE} {pos : Pos}
theorem fin_bl {pins : List (Addr × Obj)} {σ : St} {H : Hp} {s : Shared} {Q : VK} {k k' : Bool} (I : Inv X pins σ H s) (q : Q (.bl k) H) (e : k = k') : EP X pins σ Q (.bool k') s := by
  subst e
  exact (c_EEAA (.bl k) H I rfl q)
theorem op_eq : OpR X (compareOp .Eq) rEq := by
  intro pins s σ H x y v u Q I rx ry h
  obtain ⟨hs, q⟩ := h
  cases x with
  | non =>
    cases rx
    cases y with
    | non => cases ry; exact PySem.EqNone.eq_none_none (fin_bl I q (by simp))
    | bl j => cases ry; exact PySem.EqNone.eq_none_bool (fin_bl I q (by simp))
    | int j => obtain ⟨t', rfl⟩ := ry; exact PySem.EqNone.eq_none_int (fin_bl I q (by simp))
    | str j => obtain ⟨t', rfl⟩ := ry; exact PySem.EqNone.eq_none_str (fin_bl I q (by simp))
    | _ => exact absurd (show false = true from hs) Bool.false_ne_true
  | bl i =>
    cases rx
    cases y with
    | non => cases ry; exact PySem.EqNone.eq_bool_none (fin_bl I q (by simp))
    | bl j => cases ry; exact eq_bool (fin_bl I q dec_bl)
    | str j => obtain ⟨t', rfl⟩ := ry; exact PySem.EqMixed.eq_bool_str (fin_bl I q (by simp))
    | _ => exact absurd (show false = true from hs) Bool.false_ne_true
  | int i =>
    obtain ⟨t, rfl⟩ := rx
    cases y with
    | non => cases ry; exact PySem.EqNone.eq_int_none (fin_bl I q (by simp))
    | int j => obtain ⟨t', rfl⟩ := ry; exact eq_int (fin_bl I q dec_int)
    | str j => obtain ⟨t', rfl⟩ := ry; exact PySem.EqMixed.eq_int_str (fin_bl I q (by simp))
    | _ => exact absurd (show false = true from hs) Bool.false_ne_true
  | str i =>
    obtain ⟨t, rfl⟩ := rx
    cases y with
    | non => cases ry; exact PySem.EqNone.eq_str_none (fin_bl I q (by simp))
    | bl j => cases ry; exact PySem.EqMixed.eq_str_bool (fin_bl I q (by simp))
    | int j => obtain ⟨t', rfl⟩ := ry; exact PySem.EqMixed.eq_str_int (fin_bl I q (by simp))
    | str j => obtain ⟨t', rfl⟩ := ry; exact eq_str (fin_bl I q dec_str)
    | _ => exact absurd (show false = true from hs) Bool.false_ne_true
  | byt i =>
    obtain ⟨t, rfl⟩ := rx
    cases y with
    | byt j => obtain ⟨t', rfl⟩ := ry; exact PySem.W.eq_bytes (fin_bl I q dec_byt)
    | _ => exact absurd (show false = true from hs) Bool.false_ne_true
  | _ => cases y <;> exact absurd (show false = true from hs) Bool.false_ne_true
theorem op_ne : OpR X (compareOp .NotEq) rNe := by
  intro pins s σ H x y v u Q I rx ry h
  obtain ⟨hs, q⟩ := h
  cases x with
  | non =>
    cases rx
    cases y with
    | non => cases ry; exact PySem.EqNone.ne_none_none (fin_bl I q (by simp))
    | bl j => cases ry; exact PySem.EqNone.ne_none_bool (fin_bl I q (by simp))
    | int j => obtain ⟨t', rfl⟩ := ry; exact PySem.EqNone.ne_none_int (fin_bl I q (by simp))
    | str j => obtain ⟨t', rfl⟩ := ry; exact PySem.EqNone.ne_none_str (fin_bl I q (by simp))
    | _ => exact absurd (show false = true from hs) Bool.false_ne_true
  | bl i =>
    cases rx
    cases y with
    | non => cases ry; exact PySem.EqNone.ne_bool_none (fin_bl I q (by simp))
    | bl j => cases ry; exact ne_bool (fin_bl I q (congrArg not dec_bl))
    | str j => obtain ⟨t', rfl⟩ := ry; exact PySem.EqMixed.ne_bool_str (fin_bl I q (by simp))
    | _ => exact absurd (show false = true from hs) Bool.false_ne_true
  | int i =>
    obtain ⟨t, rfl⟩ := rx
    cases y with
    | non => cases ry; exact PySem.EqNone.ne_int_none (fin_bl I q (by simp))
    | int j => obtain ⟨t', rfl⟩ := ry; exact ne_int (fin_bl I q (congrArg not dec_int))
    | str j => obtain ⟨t', rfl⟩ := ry; exact PySem.EqMixed.ne_int_str (fin_bl I q (by simp))
    | _ => exact absurd (show false = true from hs) Bool.false_ne_true
  | str i =>
    obtain ⟨t, rfl⟩ := rx
    cases y with
    | non => cases ry; exact PySem.EqNone.ne_str_none (fin_bl I q (by simp))
    | bl j => cases ry; exact PySem.EqMixed.ne_str_bool (fin_bl I q (by simp))
    | int j => obtain ⟨t', rfl⟩ := ry; exact PySem.EqMixed.ne_str_int (fin_bl I q (by simp))
    | str j => obtain ⟨t', rfl⟩ := ry; exact ne_str (fin_bl I q (congrArg not dec_str))
    | _ => exact absurd (show false = true from hs) Bool.false_ne_true
  | byt i =>
    obtain ⟨t, rfl⟩ := rx
    cases y with
    | byt j => obtain ⟨t', rfl⟩ := ry; exact PySem.W.ne_bytes (fin_bl I q (congrArg not dec_byt))
    | _ => exact absurd (show false = true from hs) Bool.false_ne_true
  | _ => cases y <;> exact absurd (show false = true from hs) Bool.false_ne_true

theorem op_lt : OpR X (compareOp .Lt) (rI0 fun i j => .bl (decide (i < j))) := opB0 fun _ _ _ _ _ _ _ q => lt_int q
theorem op_gt : OpR X (compareOp .Gt) (rI0 fun i j => .bl (decide (j < i))) := opB0 fun _ _ _ _ _ _ _ q => gt_int q
theorem op_ge : OpR X (compareOp .GtE) (rI0 fun i j => .bl (decide (j ≤ i))) := opB0 fun _ _ _ _ _ _ _ q => ge_int q


/-- is, is not of two objects that are tracked lists or instances -/
def isObj : HO → Bool
  | .lst _ => true
  | .ins _ _ _ => true
  | _ => false


theorem nomark (b : Expr) {op : CmpOp} (h : op ≠ .In := by decide) (h2 : op ≠ .NotIn := by decide) : behindInMarks op b = false := by
  have e1 : (op == CmpOp.In) = false := by cases op <;> first | rfl | exact absurd rfl h
  have e2 : (op == CmpOp.NotIn) = false := by cases op <;> first | rfl | exact absurd rfl h2
  cases b <;> simp [behindInMarks, e1, e2]
/-- a comparison as a value; hm: nomark b, or (for in, not in) by with_unfolding_all rfl -/
theorem pe_cmpR {op : CmpOp} {r : R2} (ho : OpR X (compareOp op) r) (ha : PE X a ta) (hb : PE X b tb) (hm : behindInMarks op b = false) : PE X (.Compare a [op] [b] pos) (tOp r ta tb) := by
  intro pins s σ H Q I h
  exact wpAny_Compare1 (binT ha hb I h fun v u s2 x y H2 I2 rx ry q => ho pins s2 σ H2 x y v u Q I2 rx ry q) hm
/-- a reading of a value as a test -/
def tTest (t : TE) : TT := fun σ H Q => t σ H fun x H' => ∃ k, x = .bl k ∧ Q k H'
theorem pt_cmpR {op : CmpOp} {r : R2} (ho : OpR X (compareOp op) r) (ha : PE X a ta) (hb : PE X b tb) (hm : behindInMarks op b = false) : PT X (.Compare a [op] [b] pos) (tTest (tOp r ta tb)) := by
  intro pins s σ H Q I h
  refine wpAny_isTrue_Compare1 (thn (ha pins s σ H _ I h) fun v s1 ⟨x, H1, I1, r1, q1⟩ => thn (hb pins s1 σ H1 _ I1 q1) fun u s2 ⟨y, H2, I2, r2, q2⟩ =>
    thn (ho pins s2 σ H2 x y v u _ I2 r1 r2 q2) fun c s3 ⟨z, H3, I3, r3, k, e, q3⟩ => ?_) hm
  subst e
  cases r3
  exact wpAny_truthy_bool (c_EA H3 I3 q3)
/-- a op1 b op2 c -/
def tChain (r r' : R2) (ta tb tc : TE) : TE := fun σ H Q => ta σ H fun x H1 => tb σ H1 fun y H2 => r x y H2 fun z H3 => ∃ k, z = .bl k ∧
  (if k = true then tc σ H3 fun w' H4 => r' y w' H4 Q else Q (.bl false) H3)

/-! ### truth -/
/-- a value's truth by the abstract heap -/
def TruV (K : PySem.W.Frag) (x : V) (H : Hp) (k : Bool) : Prop :=
  match x with
  | .non => k = false
  | .bl b => k = b
  | .int i => k = (i != 0)
  | .str y => y.length ≤ sizeLine ∧ k = ((y.length : Int) != 0)
  | .byt y => y.size ≤ sizeLine ∧ k = ((y.size : Int) != 0)
  | .ref p => (∃ xs, SqL K H p xs ∧ k = !xs.isEmpty) ∨ (∃ xs, SqT K H p xs ∧ k = !xs.isEmpty) ∨ ∃ kvs, H p = some (.dK kvs) ∧ k = !kvs.isEmpty
  | _ => False
theorem line63 : (sizeLine : Nat) < 2 ^ 63 := by rw [sizeLine_eq]; decide

/-! ### strs and bytes -/

def PlainIxT (b : Expr) : Prop := ∀ o i, subscripted b false o i = operate [o, i] (getItem o i)

/-! ### scalar builtins, by CallR -/
theorem vals1 {x : V} {us : List Value} (r : Vals [x] us) : ∃ u, us = [u] ∧ RelV x u := by
  cases r with
  | cons r1 r2 => cases r2; exact (c_EA _ rfl r1)
theorem vals2 {x y : V} {us : List Value} (r : Vals [x, y] us) : ∃ u w', us = [u, w'] ∧ RelV x u ∧ RelV y w' := by
  cases r with
  | cons r1 r2 =>
    cases r2 with
    | cons r3 r4 => cases r4; exact (c_EEAA _ _ rfl r1 r3)
theorem call_max2 (hc : X.calm = true) : CallR X (.builtin "max") (fun xs H Q => ∃ i j, xs = [.int i, .int j] ∧ Q (.int (if j > i then j else i)) H) := by
  intro pins s σ H xs us Q I r h
  obtain ⟨i, j, rfl, q⟩ := h
  obtain ⟨u, w', rfl, ⟨t, rfl⟩, ⟨t', rfl⟩⟩ := vals2 r
  refine max_two_ints (I.ok.hd hc) fun h' tk k => (c_EEAA _ H (I.kept k) ?_ q)
  by_cases hj : j > i
  · rw [if_pos hj, if_pos hj]; exact ⟨_, rfl⟩
  · rw [if_neg hj, if_neg hj]; exact ⟨_, rfl⟩
/-- len of a str, a bytes, a list, a tuple -/
def LenV (K : PySem.W.Frag) (x : V) (H : Hp) (n : Nat) : Prop :=
  match x with
  | .str y => y.length ≤ sizeLine ∧ n = y.length
  | .byt y => y.size ≤ sizeLine ∧ n = y.size
  | .ref p => (∃ xs, SqL K H p xs ∧ n = xs.length) ∨ ∃ xs, SqT K H p xs ∧ n = xs.length
  | _ => False
end
end L2

namespace L2
open PySem PySem.Spec PyProof.Rows

/-! ### an instance, its attributes a map -/
structure ObjM (h : Heap) (x dx C : Addr) (mA : Str → Option Value) : Prop where
  obj : h.get? x = some (PySem.W.instObj C dx)
  ns : h.Ns1 dx mA
  ne : dx ≠ x

theorem lookIn_ns {h : Heap} {dx : Addr} {mA : Str → Option Value} (n : h.Ns1 dx mA) : ∃ od, h.get? dx = some od ∧ ∀ name, PySem.W.lookIn name od = some (mA name) := by
  obtain ⟨o, es, ep, ho, hd, hk, _, hm⟩ := n
  refine (c_EA o ho (fun name => ?_))
  have e := hm name
  unfold nsFind findBy at e
  rw [← Array.find?_toList] at e
  unfold PySem.W.lookIn
  rw [hd]
  dsimp only
  split
  · rename_i y q
    rw [q] at e
    exact congrArg some e
  · rename_i q
    rw [q] at e
    have a : es.toList.any (·.refKey) = false := by
      rw [List.any_eq_false]
      intro y hy
      obtain ⟨z, t, hkey⟩ := hk y (Array.mem_toList_iff.mp hy)
      simp [DictEntry.refKey, hkey]
    have a' : ¬ es.toList.any (·.refKey) = true := by rw [a]; exact Bool.false_ne_true
    rw [if_neg a']
    exact congrArg some e

theorem ObjM.look {h : Heap} {x dx C : Addr} {mA : Str → Option Value} (I : ObjM h x dx C mA) : ∃ od, PySem.W.InstAt h x (PySem.W.instObj C dx) C (some od) ∧ ∀ name, PySem.W.lookIn name od = some (mA name) :=
  let ⟨od, ho, hl⟩ := lookIn_ns I.ns
  (c_EA od ⟨I.obj, rfl, rfl, ho⟩ hl)

section
variable {prog : Program} {w : World} {A : Around} {E : Value → Shared → Prop} {s : Shared} {K : PySem.W.Frag} {x dx C f : Addr} {mA : Str → Option Value} {name : Str} {v : Value}

theorem get_map {expr : Bool} {Q : Value → Shared → Prop} (X : K.In s.heap) (I : ObjM s.heap x dx C mA) (hg : PySem.W.plainGet K C name = true) (hh : PySem.W.hasDictIn K C = true)
    (ha : PySem.W.findIn K (.ref C) name = some none) (hv : mA name = some v) (hv' : PySem.W.handedIn v = true) (h : Q v { s with toks := s.toks + 1 }) :
    wpAny (model prog w) A (getAttr (.ref x) name expr) Q E s := by
  obtain ⟨od, J, hl⟩ := I.look
  exact PySem.W.get_value X J (PySem.W.plainGet_of hg).1 (PySem.W.findObj_own hh ha rfl (by rw [hl, hv])) hv' h




end

/-! ### the attributes as a list of pairs -/
def putF (f : Str) (v : V) : List (Str × V) → List (Str × V)
  | [] => [(f, v)]
  | (g, x) :: r => if g = f then (g, v) :: r else (g, x) :: putF f v r

theorem RelO.some_of {v : V} {o : Option Value} (r : RelO (some v) o) : ∃ u, o = some u ∧ RelV v u := by
  cases o with
  | none => exact (show False from r).elim
  | some u => exact (c_EA u rfl r)
theorem handed_of {v : V} {u : Value} (r : RelV v u) : PySem.W.handedIn u = true := by
  cases v with
  | non => cases (show u = Value.none from r); rfl
  | bl b => cases (show u = Value.bool b from r); rfl
  | int i => obtain ⟨t, e⟩ := (show ∃ t, u = Value.int i t from r); cases e; rfl
  | str x => obtain ⟨t, e⟩ := (show ∃ t, u = Value.str x t from r); cases e; rfl
  | byt b => obtain ⟨t, e⟩ := (show ∃ t, u = Value.bytes b t from r); cases e; rfl
  | flt b => obtain ⟨t, e⟩ := (show ∃ t, u = Value.float b t from r); cases e; rfl
  | ref a => cases (show u = Value.ref a from r); rfl
  | ty n => cases (show u = Value.type n from r); rfl

section
variable {P : Program} {w : World} {H H' : Hp} {h h' : Heap} {a C dx : Addr} {fs fs' : List (Str × V)}
theorem ins_get (hok : HOk P w H h) (e : H a = some (.ins C dx fs)) : ∃ mA, ObjM h a dx C mA ∧ (∀ f, RelO (fs.lookup f) (mA f)) ∧ PySem.Within mA (fs.map (·.1)) ∧ fs.length ≤ 1000 ∧ H dx = some (.own a) := by
  obtain ⟨d, z, ne, ob, mA, n, r, q⟩ := (show ObjOk P w H h a (.ins C dx fs) from hok a _ e)
  exact (c_EAAAA mA ⟨ob, n, ne⟩ r q z d)
end

/-! ### what of the text a class must have -/
structure Cls (K : PySem.W.Frag) (C : Addr) : Prop where
  pg : PySem.W.plainGet K C Str.empty = true
  hd : PySem.W.hasDictIn K C = true
  po : PySem.W.plainOver K C = true
  sa : PySem.W.findIn K (.ref C) "__setattr__" = some (some (.builtin "object.__setattr__"))
theorem Cls.get {K : PySem.W.Frag} {C : Addr} (c : Cls K C) (f : Str) : PySem.W.plainGet K C f = true := c.pg
/-- no class of it has the name -/
def NoAttr (K : PySem.W.Frag) (C : Addr) (f : Str) : Prop := PySem.W.findIn K (.ref C) f = some none
/-- a constant of the class -/
structure Con (K : PySem.W.Frag) (C : Addr) (f : Str) (v : V) (u : Value) : Prop where
  at_ : PySem.W.findIn K (.ref C) f = some (some u)
  rel : RelV v u
  get : PySem.W.specialIn K u "__get__" = some none
  cp : PySem.W.copiedNames.contains f = false
/-- a method: a plain def of the class or of one above it -/
structure Meth (K : PySem.W.Frag) (C : Addr) (m : Str) (f : Addr) : Prop where
  at_ : PySem.W.findIn K (.ref C) m = some (some (.ref f))
  fn : PySem.W.isFn K (.ref f) = true
  kp : PySem.W.keepIn K (.ref f) = true

section
variable {X : Cx} {pins : List (Addr × Obj)} {σ : St} {H : Hp} {s : Shared} {a C dx : Addr} {fs : List (Str × V)} {f : Str} {v : V} {A : Around} {E : Value → Shared → Prop}

theorem getattr_ok {b : Bool} {Q : Value → Shared → Prop} (I : Inv X pins σ H s) (e : H a = some (.ins C dx fs)) (c : Cls X.K C) (n : NoAttr X.K C f) (l : fs.lookup f = some v)
    (h : ∀ u s', Inv X pins σ H s' → RelV v u → Q u s') : wpAny (model X.prog X.w) A (getAttr (.ref a) f b) Q E s := by
  obtain ⟨mA, O, r, _, _, _⟩ := ins_get I.hok e
  obtain ⟨u, hu, ru⟩ := RelO.some_of (v := v) (o := mA f) (by rw [← l]; exact r f)
  exact get_map I.kIn O (c.get f) c.hd n hu (handed_of ru) (h u _ (I.tok _) ru)





/-- e.f where nothing but the object is asked: through attributeBase (super) and the last hold -/
theorem attr_of {prog : Program} {w : World} {env : Env} {e : Expr} {f : Str} {pos : Pos} {s : Shared} {Q : Value → Shared → Prop} (hb : attributeBase e f env (eval e env) = eval e env)
    (h : wpAny (model prog w) A (eval e env) (fun o s₁ => wpAny (model prog w) A (getAttr o f true) Q E s₁) E s) : wpAny (model prog w) A (eval (.Attribute e f pos) env) Q E s :=
  Attribute_any_ h (by rw [arm_eval_Attribute, hb])
end

/-! ### readings and rules -/
/-- e.f, an attribute of the instance -/
def tFld (K : PySem.W.Frag) (ta : TE) (f : Str) : TE := fun σ H Q => ta σ H fun x H1 => ∃ a C dx fs v, x = .ref a ∧ H1 a = some (.ins C dx fs) ∧ Cls K C ∧ NoAttr K C f ∧ fs.lookup f = some v ∧ Q v H1
/-- e.f, a constant of the class -/
def tCon (K : PySem.W.Frag) (ta : TE) (f : Str) : TE := fun σ H Q => ta σ H fun x H1 => ∃ a C dx fs v u, x = .ref a ∧ H1 a = some (.ins C dx fs) ∧ Cls K C ∧ Con K C f v u ∧ fs.lookup f = none ∧ Q v H1
/-- e.f = value -/
def sFld (K : PySem.W.Frag) (ta tv : TE) (f : Str) : TS := fun D σ H => tv σ H fun y H1 => ta σ H1 fun x H2 => ∃ a C dx fs, x = .ref a ∧ H2 a = some (.ins C dx fs) ∧ Cls K C ∧ NoAttr K C f ∧ fs.length < 1000 ∧
  D.nx σ (upd H2 a (.ins C dx (putF f y fs)))
/-- an augmented operator on two values -/
def InOp (X : Cx) (op : Operator) (rd : V → V → Hp → VK → Prop) : Prop :=
  ∀ (pins : List (Addr × Obj)) (s : Shared) (σ : St) (H : Hp) (x y : V) (u v : Value) (Q : VK), Inv X pins σ H s → RelV x u → RelV y v → rd x y H Q → wpAny (model X.prog X.w) X.A (inplaceOp op u v) (EP X pins σ Q) X.xe s
/-- e.f op= value -/
def sFldAug (K : PySem.W.Frag) (ta tv : TE) (rd : V → V → Hp → VK → Prop) (f : Str) : TS := fun D σ H => ta σ H fun x H1 => ∃ a C dx fs v, x = .ref a ∧ H1 a = some (.ins C dx fs) ∧ Cls K C ∧ NoAttr K C f ∧ fs.lookup f = some v ∧
  tv σ H1 fun y H2 => rd v y H2 fun z H3 => ∃ dx' fs', H3 a = some (.ins C dx' fs') ∧ fs'.length < 1000 ∧ D.nx σ (upd H3 a (.ins C dx' (putF f z fs')))

section
variable {X : Cx} {o e value : Expr} {f : Str} {pos pos' tpos : Pos} {ta tv : TE}
theorem pe_fld (he : PE X e ta) (hb : attributeBase e f X.env (eval e X.env) = eval e X.env) : PE X (.Attribute e f pos) (tFld X.K ta f) := by
  intro pins s σ H Q I h
  refine attr_of hb (thn (he pins s σ H _ I h) fun u s1 ⟨x, H1, I1, rx, a, C, dx, fs, v, ex, ea, c, n, l, q⟩ => ?_)
  subst ex
  obtain rfl : u = Value.ref a := rx
  exact getattr_ok I1 ea c n l fun u' s2 I2 ru => (c_EEAA v H1 I2 ru q)
def rAdd : V → V → Hp → VK → Prop := fun x y H Q => ∃ i j, x = .int i ∧ y = .int j ∧ Q (.int (i + j)) H
def rSub : V → V → Hp → VK → Prop := fun x y H Q => ∃ i j, x = .int i ∧ y = .int j ∧ Q (.int (i - j)) H

end

/-! ### isinstance -/
section
variable {X : Cx} {pins : List (Addr × Obj)} {σ : St} {H : Hp} {s : Shared} {A : Around} {E : Value → Shared → Prop} {Q : Value → Shared → Prop} {c : Value} {b : Bool}
/-- the type of a value, as the fragment's deciders take it; for an instance its class -/
inductive TyOf (K : PySem.W.Frag) (H : Hp) : V → Value → Prop where
  | non : TyOf K H .non (.type "NoneType")
  | bl (x : Bool) : TyOf K H (.bl x) (.type "bool")
  | int (i : Int) : TyOf K H (.int i) (.type "int")
  | str (x : Str) : TyOf K H (.str x) (.type "str")
  | flt (x : UInt64) : TyOf K H (.flt x) (.type "float")
  | lst {a : Addr} {xs : List V} (e : H a = some (.lst xs)) : TyOf K H (.ref a) (.type "list")
  | frz {a : Addr} {o : Obj} {xs : List V} (e : H a = some (.frz o (.lst xs))) : TyOf K H (.ref a) (.type "list")
  | tup {a : Addr} {xs : List V} (e : H a = some (.tup xs)) : TyOf K H (.ref a) (.type "tuple")
  | dK {a : Addr} {kvs : List (Key × V)} (e : H a = some (.dK kvs)) : TyOf K H (.ref a) (.type "dict")
  | dT {a : Addr} {kvs : List (List Key × V)} (e : H a = some (.dT kvs)) : TyOf K H (.ref a) (.type "dict")
  | ins {a C dx : Addr} {fs : List (Str × V)} (e : H a = some (.ins C dx fs)) (cl : Cls K C) (ha : PySem.W.findIn K (.ref C) "__class__" = some (some (.builtin "object.__class__")))
      (hn : PySem.W.specialIn K (.builtin "object.__class__") "__get__" = some (some (.builtin "getset_descriptor.__get__"))) (htk : PySem.W.takesIn K (.builtin "object.__class__") = some true)
      (hm : PySem.W.mroIn K C (.type "object") = some true) : TyOf K H (.ref a) (.ref C)
/-- isinstance(x, c) for one class c, a built-in or an own one: kitOne's answer -/
theorem isinst_ok {x : V} {u t : Value} (I : Inv X pins σ H s) (rx : RelV x u) (ty : TyOf X.K H x t) (e : PySem.W.kitOne X.K t c = some b) (h : ∀ tk, Q (.bool b) { s with toks := tk }) :
    wpAny (model X.prog X.w) A (call (.builtin "isinstance") [u, c]) Q E s := by
  cases ty with
  | non => cases (show u = Value.none from rx); exact PySem.W.kia_one PySem.W.kitx_none I.kIn True.intro e (fun z => nomatch z) h
  | bl y => cases (show u = Value.bool y from rx); exact PySem.W.kia_one PySem.W.kitx_bool I.kIn True.intro e (fun z => nomatch z) h
  | int i => obtain ⟨t, q⟩ := (show ∃ t, u = Value.int i t from rx); cases q; exact PySem.W.kia_one PySem.W.kitx_int I.kIn True.intro e (fun z => nomatch z) h
  | str y => obtain ⟨t, q⟩ := (show ∃ t, u = Value.str y t from rx); cases q; exact PySem.W.kia_one PySem.W.kitx_str I.kIn True.intro e (fun z => nomatch z) h
  | flt y => obtain ⟨t, q⟩ := (show ∃ t, u = Value.float y t from rx); cases q; exact PySem.W.kia_one PySem.W.kitx_float I.kIn True.intro e (fun z => nomatch z) h
  | @lst a xs ea =>
    cases (show u = Value.ref a from rx)
    obtain ⟨_, _, n, _, h1⟩ := (show ObjOk X.prog X.w H s.heap a (.lst xs) from I.hok a _ ea)
    exact PySem.W.kia_one PySem.W.kitx_list I.kIn (c_EA _ h1 rfl) e (fun z => nomatch z) h
  | @frz a ob xs ea =>
    cases (show u = Value.ref a from rx)
    obtain ⟨_, _, _, n, _, h1⟩ := (show ObjOk X.prog X.w H s.heap a (.frz ob (.lst xs)) from I.hok a _ ea)
    exact PySem.W.kia_one PySem.W.kitx_list I.kIn (c_EA _ h1 rfl) e (fun z => nomatch z) h
  | @tup a xs ea =>
    cases (show u = Value.ref a from rx)
    obtain ⟨_, _, _, p⟩ := (show ObjOk X.prog X.w H s.heap a (.tup xs) from I.hok a _ ea)
    obtain ⟨o, h1, h2, _⟩ := p
    exact PySem.W.kia_one PySem.W.kitx_tuple I.kIn (c_EA o h1 h2) e (fun z => nomatch z) h
  | @dK a kvs ea =>
    cases (show u = Value.ref a from rx)
    obtain ⟨_, _, vs, _, p⟩ := (show ObjOk X.prog X.w H s.heap a (.dK kvs) from I.hok a _ ea)
    obtain ⟨o, es, ep, h1, h2, _⟩ := p
    exact PySem.W.kia_one PySem.W.kitx_dict I.kIn (c_EA o h1 h2.1) e (fun z => nomatch z) h
  | @dT a kvs ea =>
    cases (show u = Value.ref a from rx)
    obtain ⟨_, _, xs, _, o, es, ep, h1, h2, _⟩ := (show ObjOk X.prog X.w H s.heap a (.dT kvs) from I.hok a _ ea)
    exact PySem.W.kia_one PySem.W.kitx_dict I.kIn (c_EA o h1 h2.1) e (fun z => nomatch z) h
  | @ins a C dx fs ea cl ha hn htk hm =>
    cases (show u = Value.ref a from rx)
    obtain ⟨mA, O, _⟩ := ins_get I.hok ea
    obtain ⟨od, J, _⟩ := O.look
    exact PySem.W.kia_one (PySem.W.kitx_own (cl.get _) cl.hd ha hn htk hm) I.kIn J e (fun z => nomatch z) h
end
end L2

namespace L2
open PySem PySem.Spec PyProof.Rows

/-! ### room -/
structure Room (k : Nat) (A : Around) : Prop where
  hd : A.handled = none
  dp : A.depth + 3 * k + 5 < recursionLimit
  un : A.units + 16 * k + 200 < cLine
theorem Room.mono {j k : Nat} {A : Around} (r : Room k A) (h : j ≤ k) : Room j A := ⟨r.hd, by have := r.dp; omega, by have := r.un; omega⟩
theorem Room.deeper {k : Nat} {A : Around} (r : Room (k + 1) A) (env : Env) : Room k (A.deeper env) :=
  ⟨r.hd, by have := r.dp; show A.depth + 1 + 3 * k + 5 < _; omega, by have := r.un; show A.units + 3 + 16 * k + 200 < _; omega⟩
theorem Room.depth {k : Nat} {A : Around} (r : Room k A) : A.depth < recursionLimit := by have := r.dp; omega
theorem Room.units {k : Nat} {A : Around} (r : Room k A) : A.units + 64 < cLine := by have := r.un; omega

/-! ### argument lists and displays -/
def tNil : TA := fun _ H Q => Q [] H
def tCons (ta : TE) (tr : TA) : TA := fun σ H Q => ta σ H fun x H1 => tr σ H1 fun xs H2 => Q (x :: xs) H2
section
variable {X : Cx} {e : Expr} {es : List Expr} {te : TE} {t : TA} {pos : Pos}
theorem pa_nil : PA X [] tNil := fun _ _ _ _ H Q I h => Calls.spliced_nil (c_EEAA ([]) H I (.nil) h)
theorem pa_cons (ha : PE X e te) (hr : PA X es t) (hs : starEach (e :: es) X.env = (false, eval e X.env) :: starEach es X.env := by rfl) : PA X (e :: es) (tCons te t) := by
  intro pos pins s σ H Q I h
  rw [hs]
  show wpAny _ _ (spliced ((false, eval e X.env) :: backTo pos (starEach es X.env))) _ _ s
  refine Calls.spliced_cons (thn (ha pins s σ H _ I h) fun u s1 ⟨x, H1, I1, r1, q1⟩ => ?_)
  exact thn (hr pos pins s1 σ H1 _ I1 q1) fun us s2 ⟨xs, H2, I2, r2, q2⟩ => (c_EEAA (x :: xs) H2 I2 (.cons r1 r2) q2)

/-- a tuple, a list of written items -/
def tTup (t : TA) : TE := fun σ H Q => t σ H fun xs H1 => xs.length ≤ sizeLine ∧ ∀ p, H1 p = none → Q (.ref p) (upd H1 p (.tup xs))
def tLst (t : TA) : TE := fun σ H Q => t σ H fun xs H1 => xs.length ≤ sizeLine ∧ ∀ p, H1 p = none → Q (.ref p) (upd H1 p (.lst xs))
theorem pe_lst (h : PA X es t) : PE X (.List es pos) (tLst t) := by
  intro pins s σ H Q I hq
  refine wpAny_List_spliced (thn (h pos pins s σ H _ I hq) fun us s1 ⟨xs, H1, I1, r, z, q⟩ => ⟨by rw [← r.length]; exact z, ?_⟩)
  have hf : H1 s1.heap.objs.size = none := I1.hok.fresh (Nat.le_refl _)
  refine (c_EEAA (.ref s1.heap.objs.size) (upd H1 s1.heap.objs.size (.lst xs)) (I1.laid (t' := s1.toks) (fun b u e => Heap.get?_push_of_some _ e) (Nat.le_refl _) ?_) rfl (q _ hf))
  exact (c_AEEA z us 0 r (Heap.get?_push_size _ rfl))
end

/-! ### what a def promises -/
/-- a def's promise: the bound arguments in the parameters' order, the heap, the wanted end, the wanted exception -/
abbrev Sp := List V → Hp → VK → XK → Prop
/-- how an exception lies behind a call (file 08 gives it): the callers' frames, abstract heap and state ahead of the call, the wish, the exception, the state -/
abbrev CXT := List Env → Hp → Shared → XK → Value → Shared → Prop

/-- the state at a call -/
structure Env0 (P : Program) (w : World) (K : PySem.W.Frag) (mg : Str → Option Value) (base : Heap) (A : Around) (outer : List Env) (s : Shared) (H : Hp) : Prop where
  frames : A.frames = some outer
  mod : Mod K mg base
  bs : ∀ b o, base.get? b = some o → s.heap.get? b = some o ∧ H b = none
  bsz : base.objs.size ≤ s.heap.objs.size
  funs : s.heap.FunFrames base outer
  frf : ∀ b ∈ frs outer, H b = none
  hok : HOk P w H s.heap
  bare : AllBare s.gens
/-- a call's end -/
def CE (outer : List Env) (P : Program) (w : World) (H : Hp) (s : Shared) (Q : VK) (u : Value) (s' : Shared) : Prop :=
  ∃ v H', s'.os = s.os ∧ AllBare s'.gens ∧ Un (frs outer) [] H H' s.heap s'.heap ∧ HOk P w H' s'.heap ∧ RelV v u ∧ Q v H'
def CR (CX : CXT) (outer : List Env) (P : Program) (w : World) (H : Hp) (s : Shared) (Q : VK) (E : XK) (r : Result) (s' : Shared) : Prop :=
  match r with
  | .ok (.ret u) => CE outer P w H s Q u s'
  | .ok _ => False
  | .error e => CX outer H s E e s'
structure FnOk (P : Program) (w : World) (K : PySem.W.Frag) (mg : Str → Option Value) (base : Heap) (CX : CXT) (k : Nat) (f : Addr) (fd : FuncData) (ps : List Str) (sp : Sp) : Prop where
  len : ∀ vs H Q E, sp vs H Q E → vs.length = ps.length
  run : ∀ (A : Around) (outer : List Env) (s : Shared) (H : Hp) (args : Args) (us : List Value) (vs : List V) (Q : VK) (E : XK), Room k A → Env0 P w K mg base A outer s H → BindsTo s fd args (ps.zip us) → Vals vs us → sp vs H Q E →
    codeAny (model P w) A (.call (.ref f) args) (CR CX outer P w H s Q E) s
theorem FnOk.mono {P : Program} {w : World} {K : PySem.W.Frag} {mg : Str → Option Value} {base : Heap} {CX : CXT} {j k : Nat} {f : Addr} {fd : FuncData} {ps : List Str} {sp : Sp} (F : FnOk P w K mg base CX j f fd ps sp) (h : j ≤ k) :
    FnOk P w K mg base CX k f fd ps sp := ⟨F.len, fun A outer s H args us vs Q E hr => F.run A outer s H args us vs Q E (hr.mono h)⟩


section
variable {X : Cx} {pins : List (Addr × Obj)} {σ : St} {H : Hp} {s s' : Shared}
/-- from a body: what a callee wants -/
theorem Inv.env0 (I : Inv X pins σ H s) : Env0 X.prog X.w X.K X.mg X.base X.A X.stack s H :=
  ⟨I.ok.frames, I.ok.mod, I.bs, Nat.le_trans I.ok.bsz I.sz, I.stack, I.stkFree, I.hok, I.bare⟩
/-- behind a call -/
theorem Inv.after {Q : VK} {u : Value} (I : Inv X pins σ H s) (h : CE X.stack X.prog X.w H s Q u s') : EP X pins σ Q u s' := by
  obtain ⟨v, H', os, bare, un, hok, r, q⟩ := h
  obtain ⟨hh, g, d, t, os'⟩ := s'
  obtain rfl : os' = s.os := os
  exact (c_EEAA v H' (I.call (h' := hh) (g' := g) (d' := d) (t' := t) (ch := []) un hok bare (fun b z => absurd z (by simp))) r q)
end

/-! ### calls -/
/-- f(..): the written arguments, then the defaults dvs; E: what is wanted of an exception -/
def tCall (sp : Sp) (dvs : List V) (E : XK) (t : TA) : TE := fun σ H Q => t σ H fun vs H1 => sp (vs ++ dvs) H1 Q E
/-- o.m(..) of an instance of the class at C -/
def tMeth (C : Addr) (m : Str) (sp : Sp) (dvs : List V) (E : XK) (ta : TE) (t : TA) : TE := fun σ H Q => ta σ H fun x H1 => ∃ a dx fs, x = .ref a ∧ H1 a = some (.ins C dx fs) ∧ fs.lookup m = none ∧
  t σ H1 fun vs H2 => sp (x :: (vs ++ dvs)) H2 Q E
/-- C(..): a new instance and its dict, then __init__ -/
def tMake (C : Addr) (sp : Sp) (dvs : List V) (E : XK) (t : TA) : TE := fun σ H Q => t σ H fun vs H1 => ∀ x dx, H1 x = none → H1 dx = none → dx ≠ x →
  sp (.ref x :: (vs ++ dvs)) (upd (upd H1 dx (.own x)) x (.ins C dx [])) (fun v H2 => v = .non ∧ Q (.ref x) H2) E

/-- how the parameters are bound: us the positional arguments, kw the keywords' values by name, ds the defaults that fill up -/
def Binds (K : PySem.W.Frag) (fd : FuncData) (ps : List Str) (ds : List Value) : Prop :=
  ∀ (s : Shared) (us : List Value), K.In s.heap → (us ++ ds).length = ps.length → BindsTo s fd ⟨us, []⟩ (ps.zip (us ++ ds))
/-- every parameter is given -/
theorem Binds.all {K : PySem.W.Frag} {fd : FuncData} {ps : List Str} (h : ∀ us : List Value, us.length = ps.length → bindArgs fd ⟨us, []⟩ = pure (ps.zip us)) : Binds K fd ps [] := fun s us _ hl => by
  rw [List.append_nil] at hl ⊢
  exact .of_eq (h us hl)

/-- an exception of a callee reaches what this body wants of exceptions -/
def Passes (CX : CXT) (X : Cx) (E : XK) : Prop := ∀ (pins : List (Addr × Obj)) (σ : St) (H : Hp) (s : Shared) (e : Value) (s' : Shared), Inv X pins σ H s → CX X.stack H s E e s' → X.xe e s'

section
variable {X : Cx} {CX : CXT} {k : Nat} {f C : Addr} {fd : FuncData} {ps : List Str} {sp : Sp} {dvs : List V} {ds : List Value} {E : XK} {x m : Str} {p pos apos : Pos} {e o : Expr} {es : List Expr} {ta : TE} {t : TA}

/-- the callee runs -/
theorem run_fn {pins : List (Addr × Obj)} {σ : St} {H : Hp} {s : Shared} {Q : VK} {us : List Value} {vs : List V} (F : FnOk X.prog X.w X.K X.mg X.base CX k f fd ps sp) (hr : Room k X.A) (hb : Binds X.K fd ps ds) (hd : Vals dvs ds) (hx : Passes CX X E)
    (I : Inv X pins σ H s) (r : Vals vs us) (h : sp (vs ++ dvs) H Q E) : wpAny (model X.prog X.w) X.A (call (.ref f) us) (EP X pins σ Q) X.xe s := by
  have r2 : Vals (vs ++ dvs) (us ++ ds) := r.append hd
  have hl : (us ++ ds).length = ps.length := by rw [← r2.length]; exact F.len _ _ _ _ h
  refine wpAny_call (codeAny_mono (F.run X.A X.stack s H ⟨us, []⟩ (us ++ ds) (vs ++ dvs) Q E hr I.env0 (hb s us I.kIn hl) r2 h) fun r s' hq => ?_)
  cases r with
  | error e => exact hx pins σ H s e s' I hq
  | ok fl =>
    cases fl with
    | ret u => exact I.after hq
    | next => exact False.elim hq
    | brk => exact False.elim hq
    | cont => exact False.elim hq

theorem pe_call (F : FnOk X.prog X.w X.K X.mg X.base CX k f fd ps sp) (hr : Room k X.A) (hg : Gl X x) (hm : X.mg x = some (.ref f)) (hk : PySem.W.keepIn X.K (.ref f) = true) (hb : Binds X.K fd ps ds) (hd : Vals dvs ds) (hx : Passes CX X E)
    (ha : PA X (e :: es) t) (hdb : (x == ("__debug__" : Str)) = false := by decide) (he : starEach (e :: es) X.env = (false, eval e X.env) :: starEach es X.env := by rfl) (hpl : (backTo pos (starEach es X.env)).any (·.1) = false := by rfl) :
    PE X (.Call (.Name x p) (e :: es) [] pos) (tCall sp dvs E t) := by
  intro pins s σ H Q I h
  refine wpAny_Call_Name_kw (ld_glob I hg hm ?_ hdb)
  refine PySem.W.callWith_K (h₀ := X.base) I.ok.mod.kin hk (thn (ha pos pins s σ H _ I h) fun us s1 ⟨vs, H1, I1, r, q⟩ => ⟨I1.kIn, ?_⟩) he hpl
  exact run_fn F hr hb hd hx I1 r q


/-- what a class must have to be made -/
structure Mk (K : PySem.W.Frag) (C f : Addr) : Prop where
  makes : PySem.W.makesIn K C = true
  init : PySem.W.findIn K (.ref C) "__init__" = some (some (.ref f))
  fn : PySem.W.isFn K (.ref f) = true
  kp : PySem.W.keepIn K (.ref C) = true

end

/-! ### keywords -/
/-- the values of the keywords, from the left -/
def PK (X : Cx) (kws : List Keyword) (t : TA) : Prop :=
  ∀ (pos : Pos) (pins : List (Addr × Obj)) (s : Shared) (σ : St) (H : Hp) (Q : List V → Hp → Prop), Inv X pins σ H s → t σ H Q → wpAny (model X.prog X.w) X.A (evalAll ((backToKw pos (keywordEach kws X.env)).map (·.2))) (AP X pins σ Q) X.xe s
section
variable {X : Cx} {CX : CXT} {k : Nat} {f C : Addr} {fd : FuncData} {ps ks : List Str} {sp : Sp} {E : XK} {x m : Str} {p pos apos kpos : Pos} {e o : Expr} {es : List Expr} {kws : List Keyword} {te ta : TE} {t tk : TA} {nm : Option Str}

/-- how a call with keywords binds: g puts the positional values us and the keywords' values ws (names ks) in the parameters' order, defaults among them -/
structure KBinds (K : PySem.W.Frag) (fd : FuncData) (ps ks : List Str) (g : List Value → List Value → List Value) (gV : List V → List V → List V) : Prop where
  to : ∀ (s : Shared) (us ws : List Value), K.In s.heap → (g us ws).length = ps.length → BindsTo s fd ⟨us, ks.zip ws⟩ (ps.zip (g us ws))
  rel : ∀ {vs : List V} {us : List Value} {zs : List V} {ws : List Value}, Vals vs us → Vals zs ws → Vals (gV vs zs) (g us ws)
def tCallK (sp : Sp) (gV : List V → List V → List V) (E : XK) (t tk : TA) : TE := fun σ H Q => t σ H fun vs H1 => tk σ H1 fun zs H2 => sp (gV vs zs) H2 Q E
variable {g : List Value → List Value → List Value} {gV : List V → List V → List V}
end

/-! ### a def's body keeps its promise -/
/-- names: the parameters first -/
structure FnScope (N P : List Str) (sc : Scope) : Prop where
  kind : sc.kind = .function
  co : sc.isCoroutine = false
  gen : sc.isGenerator = false
  nd : N.Nodup
  pre : N.take P.length = P
  par : ∀ x ∈ P, sc.names.lookup x = some .local ∨ sc.names.lookup x = some .cell
  nofree : ∀ y ∈ sc.names, y.2 ≠ .free

theorem bindL_out {kindOf : Str → Option NameKind} {x : Str} : ∀ {binds : List (Str × Value)} {m : Str → Option Value}, (∀ v, (x, v) ∉ binds) → bindL kindOf binds m x = m x
  | [], _, _ => rfl
  | (n, v) :: r, m, h => by
    unfold bindL
    rw [bindL_out fun w hw => h w (List.mem_cons_of_mem _ hw)]
    split
    · have : x ≠ n := by rintro rfl; exact h v List.mem_cons_self
      simp [this]
    · rfl
theorem bindC_out {kindOf : Str → Option NameKind} {x : Str} : ∀ {binds : List (Str × Value)} {m : Str → Option Value}, (∀ v, (x, v) ∉ binds) → bindC kindOf binds m x = m x
  | [], _, _ => rfl
  | (n, v) :: r, m, h => by
    unfold bindC
    rw [bindC_out fun w hw => h w (List.mem_cons_of_mem _ hw)]
    split
    · rfl
    · have : x ≠ n := by rintro rfl; exact h v List.mem_cons_self
      simp [this]
theorem bindL_get {kindOf : Str → Option NameKind} {x : Str} {v : Value} : ∀ {P : List Str} {vs : List Value} {i : Nat} {m : Str → Option Value}, P.Nodup → P[i]? = some x → vs[i]? = some v → kindOf x = some .local →
    bindL kindOf (P.zip vs) m x = some v
  | [], _, _, _, _, h, _, _ => by simp at h
  | _ :: _, [], _, _, _, _, h, _ => by simp at h
  | p :: P, w :: vs, 0, m, nd, h1, h2, hk => by
    simp at h1 h2; subst h1; subst h2
    show bindL kindOf ((p, w) :: P.zip vs) m p = _
    unfold bindL
    rw [bindL_out fun v hv => (List.nodup_cons.mp nd).1 (List.of_mem_zip hv).1, if_pos hk]
    simp
  | p :: P, w :: vs, i + 1, m, nd, h1, h2, hk => by
    show bindL kindOf ((p, w) :: P.zip vs) m x = _
    unfold bindL
    exact bindL_get (i := i) (List.nodup_cons.mp nd).2 (by simpa using h1) (by simpa using h2) hk
theorem bindC_get {kindOf : Str → Option NameKind} {x : Str} {v : Value} : ∀ {P : List Str} {vs : List Value} {i : Nat} {m : Str → Option Value}, P.Nodup → P[i]? = some x → vs[i]? = some v → kindOf x ≠ some .local →
    bindC kindOf (P.zip vs) m x = some v
  | [], _, _, _, _, h, _, _ => by simp at h
  | _ :: _, [], _, _, _, _, h, _ => by simp at h
  | p :: P, w :: vs, 0, m, nd, h1, h2, hk => by
    simp at h1 h2; subst h1; subst h2
    show bindC kindOf ((p, w) :: P.zip vs) m p = _
    unfold bindC
    rw [bindC_out fun v hv => (List.nodup_cons.mp nd).1 (List.of_mem_zip hv).1, if_neg hk]
    simp
  | p :: P, w :: vs, i + 1, m, nd, h1, h2, hk => by
    show bindC kindOf ((p, w) :: P.zip vs) m x = _
    unfold bindC
    exact bindC_get (i := i) (List.nodup_cons.mp nd).2 (by simpa using h1) (by simpa using h2) hk

/-- the names' values at the entry -/
def start (N : List Str) (vs : List V) : St := vs.map some ++ List.replicate (N.length - vs.length) none

/-- the context of a def's body, at its entry; an exception leaves the frame, then lies as CX says -/
def cxOf (CX : CXT) (P : Program) (w : World) (K : PySem.W.Frag) (mg : Str → Option Value) (base : Heap) (N : List Str) (qual : Str) (scope : Scope) (f : Addr) (cd : Value) (A : Around) (outer : List Env) (s : Shared) (H : Hp) (E : XK) : Cx where
  prog := P
  w := w
  K := K
  mg := mg
  base := base
  A := A.deeper (envOfC qual scope s.heap.objs.size f cd)
  N := N
  s₀ := s
  H₀ := H
  env := envOfC qual scope s.heap.objs.size f cd
  outer := outer
  stack := envOfC qual scope s.heap.objs.size f cd :: outer
  ex := []
  calm := true
  fn := fun _ => true
  pn := []
  xe := fun e s' => wpAny (model P w) (A.deeper (envOfC qual scope s.heap.objs.size f cd)) (leaving (envOfC qual scope s.heap.objs.size f cd) e) (fun _ s'' => CX outer H s E e s'') (fun e' s'' => CX outer H s E e' s'') s'

theorem cell_has {sc : Scope} {n : Nat} {x : Str} (h : sc.names.lookup x = some .cell) : ∃ c, (cellsFrom n sc.names []).lookup x = some c := by
  have q := PySem.W.cellsFrom_some sc.names n [] (.inl h)
  exact Option.isSome_iff_exists.mp q

theorem inv_start {CX : CXT} {P : Program} {w : World} {K : PySem.W.Frag} {mg : Str → Option Value} {base : Heap} {N ps : List Str} {qual : Str} {scope : Scope} {f : Addr} {cd : Value} {A : Around} {outer : List Env} {s s1 : Shared} {H : Hp} {E : XK} {us : List Value} {vs : List V}
    (S : FnScope N ps scope) (hd : A.handled = none) (e0 : Env0 P w K mg base A outer s H) (hl : vs.length = ps.length) (r : Vals vs us)
    (x : InCallC s s.heap.objs.size (bindL (envOfC qual scope s.heap.objs.size f cd).kindOf (ps.zip us) fun _ => none) (cellsFrom (s.heap.objs.size + 1) scope.names []) (bindC (envOfC qual scope s.heap.objs.size f cd).kindOf (ps.zip us) fun _ => none) s1) :
    Inv (cxOf CX P w K mg base N qual scope f cd A outer s H E) [] (start N vs) H s1 := by
  have hpl : ps.length ≤ N.length := by have := congrArg List.length S.pre; rw [List.length_take] at this; omega
  obtain ⟨h1, tk, rfl, hk⟩ := x.done
  have noA : ∀ b : Addr, b ∉ (cxOf CX P w K mg base N qual scope f cd A outer s H E).ex := fun b z => absurd (show b ∈ ([] : List Addr) from z) (by simp)
  refine ⟨⟨e0.mod, S.kind, rfl, rfl, Nat.le_refl _, fun y z c h1 h2 => ?_, fun y hy => ?_, fun y c _ h => ?_, fun _ => hd, Around.frames_deeper e0.frames, .inr ⟨rfl, rfl⟩, fun b z => absurd z (noA b), e0.bs, e0.bsz, fun b _ _ => noA b, fun b z => absurd z (noA b), e0.funs, e0.frf⟩, rfl, e0.bare, Un.kept hk, (c_EA _ x.toInCall.ns (fun i y v h1 h2 h3 => ?_)), fun y c h => ⟨_, x.cell y c h⟩, e0.hok.fresh (Nat.le_refl _), fun y c h => ?_, fun p hp => absurd (show p ∈ ([] : List (Addr × Obj)) from hp) (by simp), e0.hok.kept hk, ?_⟩
  · exact name_of_addr x.apart (PySem.mem_of_lookup h1) (PySem.mem_of_lookup h2)
  · have hy : scope.names.lookup y = some .cell ∨ scope.names.lookup y = some .free := hy
    rcases hy with hy | hy
    · exact cell_has hy
    · exact absurd rfl (S.nofree _ (PySem.mem_of_lookup hy))
  · exact Nat.le_of_lt (x.above y c (PySem.mem_of_lookup h))
  · have hi : i < vs.length := by
      unfold start at h2
      by_cases hi : i < vs.length
      · exact hi
      · rw [List.getElem?_append_right (by simpa using hi)] at h2
        rw [List.getElem?_replicate] at h2
        split at h2 <;> cases h2
    have ha : vs[i]? = some v := by
      unfold start at h2
      rw [List.getElem?_append_left (by simpa using hi), List.getElem?_map] at h2
      cases e : vs[i]? with
      | none => rw [e] at h2; cases h2
      | some a => rw [e] at h2; cases h2; rfl
    obtain ⟨u, hu, rv⟩ := r.get ha
    have hp : ps[i]? = some y := by
      rw [← S.pre, List.getElem?_take_of_lt (by omega)]; exact h1
    have ndP : ps.Nodup := by rw [← S.pre]; exact S.nd.sublist (List.take_sublist _ _)
    refine (c_EA u rv ?_)
    rcases S.par y (List.mem_of_getElem? hp) with k | k
    · exact .inl ⟨k, bindL_get ndP hp hu k⟩
    · obtain ⟨c, e⟩ := cell_has (n := s.heap.objs.size + 1) k
      refine .inr (c_AEA (.inl k) c e ?_)
      have q := x.cell y c e
      rw [bindC_get ndP hp hu (by show scope.names.lookup y ≠ _; rw [k]; decide)] at q
      exact q
  · exact e0.hok.fresh (Nat.le_of_lt (x.above y c (PySem.mem_of_lookup h)))
  · unfold start
    show _ = N.length
    rw [List.length_append, List.length_map, List.length_replicate]
    omega

/-- THE RULE: a def (or a method) of the text, by its body. The body's reading t is chosen for each entry; it is run at the parameters' values -/
theorem fn_of {CX : CXT} {P : Program} {w : World} {K : PySem.W.Frag} {mg : Str → Option Value} {base : Heap} {k : Nat} {f : Addr} {name qual : Str} {params : Arguments} {body : List Stmt} {scope : Scope} {dV kV doc pm cdv ct oc : Value} {an od : Option Addr}
    {osl : Array (Option Value)} {N ps : List Str} {sp : Sp} (lk : K.lookup f = some ⟨oc, od, .func (PySem.W.fnOf name qual params body scope dV kV doc pm an cdv ct), osl⟩) (hcd : PySem.W.codeIn K cdv qual = true) (S : FnScope N ps scope)
    (len : ∀ vs H Q E, sp vs H Q E → vs.length = ps.length)
    (hbody : ∀ (A : Around) (outer : List Env) (s : Shared) (H : Hp) (vs : List V) (Q : VK) (E : XK), Room k (A.deeper (envOfC qual scope s.heap.objs.size f cdv)) → sp vs H Q E →
      ∃ t, PSs (cxOf CX P w K mg base N qual scope f cdv A outer s H E) body t ∧ t { nx := fun _ H' => Q .non H', rt := Q } (start N vs) H) :
    FnOk P w K mg base CX (k + 1) f (PySem.W.fnOf name qual params body scope dV kV doc pm an cdv ct) ps sp := by
  refine ⟨len, fun A outer s H args us vs Q E hr e0 hb r hsp => ?_⟩
  have hl := len _ _ _ _ hsp
  have KX : K.In s.heap := e0.mod.kin.keeps fun b o e => (e0.bs b o e).1
  have lim : s.heap.NoLimit := e0.mod.nolimit.keeps fun b o e => (e0.bs b o e).1
  have hkind : ∀ y ∈ ps.zip us, scope.names.lookup y.1 = some .local ∨ (scope.names.lookup y.1 = some .cell ∧ ((cellsFrom (s.heap.objs.size + 1) scope.names []).lookup y.1).isSome = true) := fun ⟨n, v⟩ hy => by
    rcases S.par n (List.of_mem_zip hy).1 with q | q
    · exact .inl q
    · exact .inr ⟨q, PySem.W.cellsFrom_some _ _ _ (.inl q)⟩
  refine codeAny_call_function hr.depth (KX _ _ lk) rfl S.co S.gen rfl (PySem.W.codeRec_of KX hcd) (hb _ _ _ _ ?_)
  refine wpAny_newFunctionEnv_cells S.kind hkind fun env he s1 x => ?_
  subst he
  refine ⟨lim.keeps x.toInCall.keep, codeAny_func ?_⟩
  obtain ⟨t, ht, hq⟩ := hbody A outer s H vs Q E (hr.deeper _) hsp
  have I : Inv (cxOf CX P w K mg base N qual scope f cdv A outer s H E) [] (start N vs) H s1 := inv_start S hr.hd e0 hl r x
  refine wpAny_mono (ht [] s1 (start N vs) H _ I hq) (fun fl s' hs => ?_) fun e s' hs => hs
  have fin : ∀ {σ' : St} {H' : Hp} {v : V} {u : Value}, Inv (cxOf CX P w K mg base N qual scope f cdv A outer s H E) [] σ' H' s' → RelV v u → Q v H' → CE outer P w H s Q u s' :=
    fun {σ' H' v u} J rv q => (c_EEAAAAA v H' J.os J.bare J.base J.hok rv q)
  cases fl with
  | ret u =>
    obtain ⟨v, σ', H', J, rv, q⟩ := hs
    exact fin J rv q
  | next =>
    obtain ⟨σ', H', J, q⟩ := hs
    exact fin (v := V.non) (u := Value.none) J rfl q
  | brk =>
    obtain ⟨_, _, _, q⟩ := hs
    exact False.elim q
  | cont =>
    obtain ⟨_, _, _, q⟩ := hs
    exact False.elim q
end L2

namespace L2
open PySem PySem.Spec PyProof.Rows
section
variable {X : Cx} {x : Str} {p pos : Pos} {e : Expr} {es : List Expr} {t : TA} {id T : String} {r : List V → Hp → VK → Prop}

def tCB (r : List V → Hp → VK → Prop) (t : TA) : TE := fun σ H Q => t σ H fun vs H1 => r vs H1 Q
/-- f(e, ..), f a built-in function -/
theorem pe_callB (hc : CallR X (.builtin id) r) (hg : Gl X x) (hm : X.mg x = none) (hv : bootBuiltins x = some (.builtin id)) (ha : PA X (e :: es) t) (hn : x ≠ "__name__" := by decide) (hdb : (x == ("__debug__" : Str)) = false := by decide)
    (he : starEach (e :: es) X.env = (false, eval e X.env) :: starEach es X.env := by rfl) (hpl : (backTo pos (starEach es X.env)).any (·.1) = false := by rfl) : PE X (.Call (.Name x p) (e :: es) [] pos) (tCB r t) := by
  intro pins s σ H Q I h
  refine wpAny_Call_Name_kw (ld_blt I hg hm hv ?_ hn hdb)
  exact PyProof.Rows.callWith_builtin1 (thn (ha pos pins s σ H _ I h) fun us s1 ⟨vs, H1, I1, r1, q1⟩ => hc pins s1 σ H1 vs us Q I1 r1 q1) he hpl
end
end L2

namespace HT
open PySem PyProof.Rows

/-- t < u of tuples of ints -/
def lexLt : List Int → List Int → Bool
  | [], [] => false
  | [], _ :: _ => true
  | _ :: _, [] => false
  | x :: xs, y :: ys => if x = y then lexLt xs ys else decide (x < y)


section
open PySem.SeqAt
open PySem.AutoSeq1 (wpAny_loadPart')
open PySem.MeetsSeq PySem.MeetsSeq2 PySem.MeetsSeq3

end

section
variable {prog : Program} {w : World} {A : Around} {E : Value → Shared → Prop} {s : Shared}



/-! ### t[a:b], not the whole -/
/-- a slice's bound as a place among n (d where it is left out) -/
def sIx (n d : Nat) : Option Int → Nat
  | none => d
  | some v => if v < 0 then (v + (n : Int)).toNat else min v.toNat n

end
end HT

namespace L2
open PySem PySem.Spec PyProof.Rows

/-! ### the parts of a slice -/
abbrev TO := St → Hp → (Option Int → Hp → Prop) → Prop
/-- a slice's part (left out, or an int) -/
def PO (X : Cx) (e : Option Expr) (t : TO) : Prop :=
  ∀ (pins : List (Addr × Obj)) (s : Shared) (σ : St) (H : Hp) (Q : Option Int → Hp → Prop), Inv X pins σ H s → t σ H Q →
    wpAny (model X.prog X.w) X.A (evalPart e X.env) (fun u s' => ∃ o H', Inv X pins σ H' s' ∧ IsPart u o ∧ Q o H') X.xe s
def tNoPart : TO := fun _ H Q => Q none H
def tPart (t : TE) : TO := fun σ H Q => t σ H fun x H1 => ∃ i, x = .int i ∧ Q (some i) H1


section
variable {X : Cx} {e : Expr} {te : TE} {lo hi : Option Expr} {tl th : TO} {pos p2 : Pos}

theorem po_none : PO X none tNoPart := by
  intro pins s σ H Q I h
  rw [evalPart_none]
  exact wpAny_pure (c_EEAA none H I (.none) h)
theorem po_some (h : PE X e te) : PO X (some e) (tPart te) := by
  intro pins s σ H Q I hw
  rw [evalPart_some]
  refine thn (h pins s σ H _ I hw) fun u s1 ⟨x, H1, I1, r1, q1⟩ => ?_
  obtain ⟨i, rfl, q⟩ := q1
  obtain ⟨t, rfl⟩ := r1
  exact (c_EEAA (some i) H1 I1 (.int i t) q)

/-- what a slice of a value is, by values: the slice object stands at sl -/
def SlR (X : Cx) (r : V → Option Int → Option Int → Hp → VK → Prop) : Prop :=
  ∀ (pins : List (Addr × Obj)) (s : Shared) (σ : St) (H : Hp) (x : V) (v vl vu : Value) (lo hi : Option Int) (sl : Addr) (Q : VK), Inv X pins σ H s → RelV x v → s.heap.IsSliceOf sl vl vu .none → IsPart vl lo → IsPart vu hi → r x lo hi H Q →
    ∃ T id, typeLookup (.type T) "__getitem__" = pure (some (.builtin id)) ∧ s.TypeIs v T ∧ wpAny (model X.prog X.w) X.A (getItem v (.ref sl)) (EP X pins σ Q) X.xe s
def tSl (r : V → Option Int → Option Int → Hp → VK → Prop) (te : TE) (tl th : TO) : TE := fun σ H Q => te σ H fun x H1 => tl σ H1 fun l H2 => th σ H2 fun u H3 => r x l u H3 Q
/-- a[lo:hi], any a -/
theorem pe_slice {r : V → Option Int → Option Int → Hp → VK → Prop} (hr : SlR X r) (he : PE X e te) (hl : PO X lo tl) (hu : PO X hi th) : PE X (.Subscript e (.Slice lo hi none p2) pos) (tSl r te tl th) := by
  intro pins s σ H Q I h
  refine Subscript_ (thn (he pins s σ H _ I h) fun v s1 ⟨x, H1, I1, r1, q1⟩ => ?_)
  refine wpAny_Slice (thn (hl pins s1 σ H1 _ I1 q1) fun vl s2 ⟨l, H2, I2, pl, q2⟩ => thn (hu pins s2 σ H2 _ I2 q2) fun vu s3 ⟨u, H3, I3, pu, q3⟩ => ?_)
  rw [evalPart_none]
  refine wpAny_pure ?_
  have I4 : Inv X pins σ H3 { s3 with heap := s3.heap.push { cls := .type "slice", data := .fields #[vl, vu, .none] } } := I3.kept (t' := s3.toks) fun b ob q => Heap.get?_push_of_some _ q
  obtain ⟨T, id, hT, ht, hg⟩ := hr pins { s3 with heap := s3.heap.push { cls := .type "slice", data := .fields #[vl, vu, .none] } } σ H3 x v vl vu l u s3.heap.objs.size Q I4 r1 (Heap.IsSliceOf.new ..) pl pu q3
  show wpAny (model X.prog X.w) X.A (subscriptTail e (.Slice lo hi none p2) v (.ref s3.heap.objs.size)) (EP X pins σ Q) X.xe { s3 with heap := s3.heap.push { cls := .type "slice", data := .fields #[vl, vu, .none] } }
  exact tail_any (ops := [.ref s3.heap.objs.size, v]) ht hT hg (by with_unfolding_all rfl)

/-- the items of xs[lo:hi] -/
def cutV (xs : List V) (lo hi : Option Int) : List V := (xs.drop (HT.sIx xs.length 0 lo)).take (HT.sIx xs.length xs.length hi - HT.sIx xs.length 0 lo)
theorem cutV_length (xs : List V) (lo hi : Option Int) : (cutV xs lo hi).length ≤ xs.length := by
  unfold cutV
  rw [List.length_take, List.length_drop]
  omega
/-- t[lo:hi], not the whole of it (the whole would be t itself) -/
def rSlT (K : PySem.W.Frag) : V → Option Int → Option Int → Hp → VK → Prop := fun x lo hi H Q => ∃ a xs, x = .ref a ∧ SqT K H a xs ∧
  ¬ (HT.sIx xs.length 0 lo = 0 ∧ HT.sIx xs.length xs.length hi = xs.length) ∧ ∀ p, H p = none → Q (.ref p) (upd H p (.tup (cutV xs lo hi)))

/-! ### t < u, t + u -/
def rLtT (K : PySem.W.Frag) : R2 := fun x y H Q => ∃ a b ns ms, x = .ref a ∧ y = .ref b ∧ SqT K H a (ns.map V.int) ∧ SqT K H b (ms.map V.int) ∧ Q (.bl (HT.lexLt ns ms)) H
/-- t + u, t not empty: u empty gives t itself -/
def rCatT (K : PySem.W.Frag) : R2 := fun x y H Q => ∃ a b xs ys, x = .ref a ∧ y = .ref b ∧ SqT K H a xs ∧ SqT K H b ys ∧ xs ≠ [] ∧ xs.length + ys.length ≤ sizeLine ∧
  (ys = [] → Q (.ref a) H) ∧ (ys ≠ [] → ∀ p, H p = none → Q (.ref p) (upd H p (.tup (xs ++ ys))))
end
end L2

namespace L2
open PySem PySem.Spec PyProof.Rows

/-! ### places -/
/-- the place that an index of any sign means -/
def ixN (n : Nat) (i : Int) : Option Nat := if 0 ≤ i then (if i < n then some i.toNat else none) else if -(n : Int) ≤ i then some (i + n).toNat else none
def atI {α : Type} (xs : List α) (i : Int) : Option α := (ixN xs.length i).bind fun j => xs[j]?
theorem ixN_seq {n : Nat} {i : Int} {j : Nat} (h : ixN n i = some j) : seqIndex? i n = some j ∧ j < n ∧ -(n : Int) ≤ i ∧ i < n := by
  unfold ixN at h
  by_cases h0 : 0 ≤ i
  · rw [if_pos h0] at h
    by_cases h1 : i < n
    · rw [if_pos h1] at h
      have e : i.toNat = j := Option.some.inj h
      exact (c_AAA (by rw [seqIndex_of h0 h1, e]) (by omega) (by omega) h1)
    · rw [if_neg h1] at h; cases h
  · rw [if_neg h0] at h
    by_cases h1 : -(n : Int) ≤ i
    · rw [if_pos h1] at h
      have e : (i + n).toNat = j := Option.some.inj h
      exact (c_AAA (by rw [seqIndex_neg (by omega) h1, e]) (by omega) h1 (by omega))
    · rw [if_neg h1] at h; cases h
theorem atI_get {α : Type} {xs : List α} {i : Int} {v : α} (h : atI xs i = some v) : ∃ j, seqIndex? i xs.length = some j ∧ xs[j]? = some v ∧ j < xs.length ∧ -(xs.length : Int) ≤ i ∧ i < xs.length := by
  unfold atI at h
  cases e : ixN xs.length i with
  | none => rw [e] at h; cases h
  | some j =>
    rw [e] at h
    obtain ⟨h1, h2, h3, h4⟩ := ixN_seq e
    exact (c_EAAAA j h1 h h2 h3 h4)
theorem atI_nat {α : Type} {xs : List α} {j : Nat} {v : α} (h : xs[j]? = some v) : atI xs (j : Int) = some v := by
  have hj : j < xs.length := (List.getElem?_eq_some_iff.mp h).1
  have e : ixN xs.length (j : Int) = some j := by
    unfold ixN
    rw [if_pos (by omega), if_pos (by omega)]; simp
  unfold atI; rw [e]; exact h

/-! ### what may be subscripted -/
/-- what stands as an index of a plain subscript -/
def PlainIx (b : Expr) : Prop := ∀ o i, subscripted b false o i = operate [o, i] (getItem o i)
/-- a subscript by values -/
def IxR (X : Cx) (r : R2) : Prop :=
  ∀ (value slice : Expr) (pins : List (Addr × Obj)) (s : Shared) (σ : St) (H : Hp) (x y : V) (v u : Value) (Q : VK), Inv X pins σ H s → RelV x v → RelV y u → r x y H Q →
    subscripted slice false v u = operate [v, u] (getItem v u) → wpAny (model X.prog X.w) X.A (subscriptTail value slice v u) (EP X pins σ Q) X.xe s
/-- a call of a builtin's method by values: the receiver, the arguments -/
def MtR (X : Cx) (id : String) (r : V → List V → Hp → VK → Prop) : Prop :=
  ∀ (pins : List (Addr × Obj)) (s : Shared) (σ : St) (H : Hp) (x : V) (xs : List V) (v : Value) (us : List Value) (Q : VK), Inv X pins σ H s → RelV x v → Vals xs us → r x xs H Q →
    wpAny (model X.prog X.w) X.A (call (.builtin id) (v :: us)) (EP X pins σ Q) X.xe s
section
variable {X : Cx} {a b : Expr} {ta tb : TE} {pos : Pos}
/-- a[b] -/
theorem pe_ix {r : R2} (hr : IxR X r) (ha : PE X a ta) (hb : PE X b tb) (hs : PlainIx b) : PE X (.Subscript a b pos) (tOp r ta tb) := by
  intro pins s σ H Q I h
  exact Subscript_ (binT ha hb I h fun v u s2 x y H2 I2 rx ry q => hr a b pins s2 σ H2 x y v u Q I2 rx ry q (hs _ _))

def rIxL (K : PySem.W.Frag) : R2 := fun x y H Q => ∃ p xs i v, x = .ref p ∧ y = .int i ∧ SqL K H p xs ∧ atI xs i = some v ∧ Q v H
def rIxT (K : PySem.W.Frag) : R2 := fun x y H Q => ∃ p xs i v, x = .ref p ∧ y = .int i ∧ SqT K H p xs ∧ atI xs i = some v ∧ Q v H
def rIxS : R2 := fun x y H Q => ∃ z i c, x = .str z ∧ y = .int i ∧ z.length ≤ sizeLine ∧ atI z.cps.toList i = some c ∧ Q (.str ⟨#[c]⟩) H
theorem ix_list : IxR X (rIxL X.K) := by
  intro value slice pins s σ H x y v u Q I rx ry h hs
  obtain ⟨p, xs, i, z, rfl, rfl, hq, he, q⟩ := h
  cases rx
  obtain ⟨t, rfl⟩ := ry
  obtain ⟨its, r, pl, hz⟩ := I.list hq
  obtain ⟨j, h1, h2, h3, h4, h5⟩ := atI_get he
  obtain ⟨w, ew, rw'⟩ := r.get h2
  have hl := r.length
  have hn := line63
  have fin : EP X pins σ Q w s := (c_EEAA z H I rw' q)
  by_cases h0 : 0 ≤ i
  · have hj : i.toNat = j := by
      rw [seqIndex_of h0 h5] at h1
      exact Option.some.inj h1
    exact item_listR pl.isList h0 (by omega) (by rw [hj]; simpa using ew) fin hs
  · have hj : (i + (its.toArray.size : Int)).toNat = j := by
      rw [seqIndex_neg (by omega) h4] at h1
      rw [List.size_toArray, ← hl]
      exact Option.some.inj h1
    exact subscriptTail_builtinR (x := w) pl.isList.typeIs slot_list_getitem.lookup
      (wpAny_getItem_list_neg (Q := fun r s' => r = w ∧ EP X pins σ Q r s') pl.isList (by omega) (by rw [List.size_toArray] <;> omega) (by omega) (by rw [hj]; simpa using ew) ⟨rfl, fin⟩) hs
theorem ix_tup : IxR X (rIxT X.K) := by
  intro value slice pins s σ H x y v u Q I rx ry h hs
  obtain ⟨p, xs, i, z, rfl, rfl, hq, he, q⟩ := h
  cases rx
  obtain ⟨t, rfl⟩ := ry
  obtain ⟨its, r, pl, hz⟩ := I.tuple hq
  obtain ⟨j, h1, h2, h3, h4, h5⟩ := atI_get he
  obtain ⟨w, ew, rw'⟩ := r.get h2
  have hl := r.length
  have hn := line63
  have fin : EP X pins σ Q w s := (c_EEAA z H I rw' q)
  exact subscriptTail_builtinR (x := w) pl.typeIs slot_tuple_getitem.lookup
    (getItem_tuple (j := j) (Q := fun r s' => r = w ∧ EP X pins σ Q r s') pl (by omega) (by omega) (by rw [List.size_toArray, ← hl]; exact h1) (by simpa using ew) ⟨rfl, fin⟩) hs
/-- list, tuple or str -/
def rIx (K : PySem.W.Frag) : R2 := fun x y H Q => rIxL K x y H Q ∨ rIxT K x y H Q ∨ rIxS x y H Q

/-! ### xs[i] = v, any sign -/
def rSetL : V → V → V → Hp → (Hp → Prop) → Prop := fun o i v H Q => ∃ p xs k j, o = .ref p ∧ i = .int k ∧ H p = some (.lst xs) ∧ ixN xs.length k = some j ∧ Q (upd H p (.lst (xs.set j v)))

/-! ### slices -/
theorem slice_bounds (lo hi : Option Int) (n : Nat) : (sliceBounds lo hi none n).1 = ((HT.sIx n 0 lo : Nat) : Int) ∧ (sliceBounds lo hi none n).2.1 = ((HT.sIx n n hi : Nat) : Int) ∧ (sliceBounds lo hi none n).2.2 = 1 := by
  refine (c_AA ?_ ?_ rfl)
  · cases lo with
    | none => simp [sliceBounds, HT.sIx]
    | some i =>
      simp only [sliceBounds, HT.sIx, Option.getD_none, show (1 : Int) > 0 by decide, if_true]
      by_cases h : i < 0
      · simp only [h, if_true] <;> omega
      · simp only [h, if_false] <;> omega
  · cases hi with
    | none => simp [sliceBounds, HT.sIx]
    | some i =>
      simp only [sliceBounds, HT.sIx, Option.getD_none, show (1 : Int) > 0 by decide, if_true]
      by_cases h : i < 0
      · simp only [h, if_true] <;> omega
      · simp only [h, if_false] <;> omega
theorem slicePick_cut (its : List Value) (lo hi : Option Int) : slicePick its.toArray lo hi none = ((its.drop (HT.sIx its.length 0 lo)).take (HT.sIx its.length its.length hi - HT.sIx its.length 0 lo)).toArray := by
  obtain ⟨h1, h2, h3⟩ := slice_bounds lo hi its.toArray.size
  unfold slicePick
  rw [h1, h2, h3]
  simp only [sliceRange_one, pick_run, List.size_toArray] <;> rfl
/-- xs[lo:hi] of a list: a new list -/
def rSlL (K : PySem.W.Frag) : V → Option Int → Option Int → Hp → VK → Prop := fun x lo hi H Q => ∃ a xs, x = .ref a ∧ SqL K H a xs ∧ ∀ p, H p = none → Q (.ref p) (upd H p (.lst (cutV xs lo hi)))
theorem sl_list : SlR X (rSlL X.K) := by
  intro pins s σ H x v vl vu lo hi sl Q I rx hs pl pu h
  obtain ⟨a, xs, rfl, hx, q⟩ := h
  cases rx
  obtain ⟨its, r, ht, hz⟩ := I.list hx
  have hlen := r.length
  refine (c_EEAA ("list") _ slot_list_getitem.lookup ht.isList.typeIs ?_)
  refine wpAny_getItem_list_slice ht.isList hs pl pu .none (by simp) ?_ (by rw [List.size_toArray] <;> omega)
  rw [slicePick_cut, ← hlen]
  refine (c_EEAA (.ref s.heap.objs.size) _ (I.laid (t' := s.toks) (o := .lst (cutV xs lo hi)) (fun b ob q => Heap.get?_push_of_some _ q) (Nat.le_refl _) ?_) rfl (q _ (I.hok.fresh (Nat.le_refl _))))
  exact (c_AEEA (Nat.le_trans (cutV_length xs lo hi) hz) _ 0 ((r.drop (HT.sIx xs.length 0 lo)).take (HT.sIx xs.length xs.length hi - HT.sIx xs.length 0 lo)) (Heap.get?_push_size _ rfl))

/-! ### in, not in: flat items -/
def flatV : V → Bool
  | .non => true
  | .bl _ => true
  | .int _ => true
  | .str _ => true
  | _ => false
/-- == of flat values -/
def eqV : V → V → Bool
  | .non, .non => true
  | .bl a, .bl b => a == b
  | .bl a, .int b => (if a then 1 else 0) == b
  | .int a, .bl b => a == (if b then 1 else 0)
  | .int a, .int b => a == b
  | .str a, .str b => a == b
  | _, _ => false
theorem eqAt_V {A : Around} {s : Shared} {y x : V} {u v : Value} (ry : RelV y u) (rx : RelV x v) (fy : flatV y = true) (fx : flatV x = true) : SeqAt.EqAt A s u v (eqV y x) := by
  cases y with
  | non =>
    cases ry
    cases x with
    | non => cases rx; exact SeqAt.EqAt.same _
    | bl b => cases rx; exact SeqAt.EqAt.none_bool b
    | int b => obtain ⟨t, rfl⟩ := rx; exact SeqAt.EqAt.none_int b t
    | str b => obtain ⟨t, rfl⟩ := rx; exact SeqAt.EqAt.none_str b t
    | _ => exact absurd (show false = true from fx) Bool.false_ne_true
  | bl a =>
    cases ry
    cases x with
    | non => cases rx; exact SeqAt.EqAt.bool_none a
    | bl b => cases rx; exact SeqAt.EqAt.bool_bool a b
    | int b => obtain ⟨t, rfl⟩ := rx; exact SeqAt.EqAt.bool_int a b t
    | str b => obtain ⟨t, rfl⟩ := rx; exact SeqAt.EqAt.bool_str a b t
    | _ => exact absurd (show false = true from fx) Bool.false_ne_true
  | int a =>
    obtain ⟨t', rfl⟩ := ry
    cases x with
    | non => cases rx; exact SeqAt.EqAt.int_none a t'
    | bl b => cases rx; exact SeqAt.EqAt.int_bool a t' b
    | int b => obtain ⟨t, rfl⟩ := rx; exact SeqAt.EqAt.int_int a t' b t
    | str b => obtain ⟨t, rfl⟩ := rx; exact SeqAt.EqAt.int_str a t' b t
    | _ => exact absurd (show false = true from fx) Bool.false_ne_true
  | str a =>
    obtain ⟨t', rfl⟩ := ry
    cases x with
    | non => cases rx; exact SeqAt.EqAt.str_none a t'
    | bl b => cases rx; exact SeqAt.EqAt.str_bool a t' b
    | int b => obtain ⟨t, rfl⟩ := rx; exact SeqAt.EqAt.str_int a t' b t
    | str b => obtain ⟨t, rfl⟩ := rx; exact SeqAt.EqAt.str_str a t' b t
    | _ => exact absurd (show false = true from fx) Bool.false_ne_true
  | _ => exact absurd (show false = true from fy) Bool.false_ne_true
/-- the items' answers, read off the values (a value's own answer does not lean on its token) -/
def eqU (x : V) (u : Value) : Bool := match u with
  | .none => eqV .non x
  | .bool b => eqV (.bl b) x
  | .int i _ => eqV (.int i) x
  | .str z _ => eqV (.str z) x
  | _ => false
theorem eqU_of {x y : V} {u : Value} (r : RelV y u) (f : flatV y = true) : eqU x u = eqV y x := by
  cases y with
  | non => cases r; rfl
  | bl b => cases r; rfl
  | int i => obtain ⟨t, rfl⟩ := r; rfl
  | str z => obtain ⟨t, rfl⟩ := r; rfl
  | _ => exact absurd (show false = true from f) Bool.false_ne_true
theorem any_eqU {x : V} : ∀ {xs : List V} {us : List Value}, Vals xs us → xs.all flatV = true → us.any (eqU x) = xs.any fun y => eqV y x
  | _, _, .nil, _ => rfl
  | y :: xs, u :: us, .cons r t, f => by
    rw [List.all_cons, Bool.and_eq_true] at f
    rw [List.any_cons, List.any_cons, eqU_of r f.1, any_eqU t f.2]
theorem mem_eqAt {A : Around} {s : Shared} {x : V} {v : Value} (rx : RelV x v) (fx : flatV x = true) : ∀ {xs : List V} {us : List Value}, Vals xs us → xs.all flatV = true → ∀ u ∈ us, SeqAt.EqAt A s u v (eqU x u)
  | _, _, .nil, _ => fun u hu => by cases hu
  | y :: xs, u :: us, .cons r t, f => fun u' hu => by
    rw [List.all_cons, Bool.and_eq_true] at f
    rcases List.mem_cons.mp hu with rfl | hu
    · rw [eqU_of r f.1]; exact eqAt_V r rx f.1 fx
    · exact mem_eqAt rx fx t f.2 u' hu
def inV (x : V) (xs : List V) : Bool := xs.any fun y => eqV y x
/-- x in a list or tuple of flat items -/
def rIn (K : PySem.W.Frag) (neg : Bool) : R2 := fun x y H Q => ∃ p xs, y = .ref p ∧ (SqL K H p xs ∨ SqT K H p xs) ∧ flatV x = true ∧ xs.all flatV = true ∧ Q (.bl (if neg then !inV x xs else inV x xs)) H
theorem op_in_seq : OpR X (compareOp .In) (rIn X.K false) := by
  intro pins s σ H x y v u Q I rx ry h
  obtain ⟨p, xs, rfl, hq, fx, fs, q⟩ := h
  cases ry
  rcases hq with hq | hq
  · obtain ⟨its, r, pl, hz⟩ := I.list hq
    refine SeqAt.in_listAt (eqU x) pl.isList (fun w hw => mem_eqAt rx fx r fs w (by simpa using hw)) (c_EEAA (.bl _) H I rfl ?_)
    rw [show its.toArray.any (eqU x) = its.any (eqU x) by simp, any_eqU r fs]
    exact q
  · obtain ⟨its, r, pl, hz⟩ := I.tuple hq
    refine SeqAt.in_tupleAt (eqU x) pl (fun w hw => mem_eqAt rx fx r fs w (by simpa using hw)) (c_EEAA (.bl _) H I rfl ?_)
    rw [show its.toArray.any (eqU x) = its.any (eqU x) by simp, any_eqU r fs]
    exact q

/-! ### len, list(x), tuple(x) of any list or tuple that is read -/
theorem call_len_seq : CallR X (.builtin "len") (fun xs H Q => ∃ p ys, xs = [.ref p] ∧ (SqL X.K H p ys ∨ SqT X.K H p ys) ∧ Q (.int ys.length) H) := by
  intro pins s σ H xs us Q I r h
  obtain ⟨p, ys, rfl, hq, q⟩ := h
  obtain ⟨u, rfl, rx⟩ := vals1 r
  cases rx
  have hn := line63
  rcases hq with hq | hq
  · obtain ⟨its, r', pl, hz⟩ := I.list hq
    have hlen := r'.length
    exact Calls.call_len_list pl.isList (by simp only [List.size_toArray] <;> omega) (c_EEAA (.int ys.length) H (I.tok _) ⟨s.toks + 1, by rw [List.size_toArray, hlen]⟩ q)
  · obtain ⟨its, r', pl, hz⟩ := I.tuple hq
    have hlen := r'.length
    exact len_tuple pl (by simp only [List.size_toArray] <;> omega) (c_EEAA (.int ys.length) H (I.tok _) ⟨s.toks + 1, by rw [List.size_toArray, hlen]⟩ q)

/-! ### the call of a builtin's method: o.m(..) -/
/-- the value is of that builtin type -/
def tyV (K : PySem.W.Frag) (T : String) (x : V) (H : Hp) : Prop := match x with
  | .str _ => T = "str"
  | .int _ => T = "int"
  | .ref p => (T = "list" ∧ ∃ xs, SqL K H p xs) ∨ (T = "tuple" ∧ ∃ o, K.lookup p = some o ∧ o.cls = .type "tuple" ∧ o.dict = none) ∨
      (T = "dict" ∧ ((∃ kvs, H p = some (.dK kvs)) ∨ ∃ kvs, H p = some (.dT kvs))) ∨ (T = "set" ∧ ∃ S n, H p = some (.set S n))
  | _ => False
theorem tyV_is {pins : List (Addr × Obj)} {σ : St} {H : Hp} {s : Shared} {T : String} {x : V} {v : Value} (I : Inv X pins σ H s) (r : RelV x v) (ty : tyV X.K T x H) :
    s.TypeIs v T ∧ ∀ a, v = .ref a → ∃ ob, s.heap.get? a = some ob ∧ ob.dict = none := by
  cases x with
  | str z =>
    obtain ⟨t, rfl⟩ := r
    cases (show T = "str" from ty)
    exact ⟨typeIs_str s z t, fun _ e => nomatch e⟩
  | int i =>
    obtain ⟨t, rfl⟩ := r
    cases (show T = "int" from ty)
    exact ⟨typeIs_int s i t, fun _ e => nomatch e⟩
  | ref p =>
    cases r
    rcases ty with ⟨rfl, xs, hq⟩ | ⟨rfl, o, hk, hc, hd⟩ | ⟨rfl, hk⟩ | ⟨rfl, S, n, hk⟩
    · obtain ⟨its, _, pl, _⟩ := I.list hq
      refine ⟨pl.isList.typeIs, fun a e => ?_⟩
      cases e
      obtain ⟨o, n, e, c, hd, _⟩ := pl
      exact (c_EA o e hd)
    · refine ⟨(c_EA o (I.kIn p o hk) hc), fun a e => ?_⟩
      cases e
      exact (c_EA o (I.kIn _ o hk) hd)
    · have z : ∃ o, s.heap.get? p = some o ∧ o.ExactDict := by
        rcases hk with ⟨kvs, hk⟩ | ⟨kvs, hk⟩
        · obtain ⟨_, _, _, _, o, _, _, e, ex, _⟩ := I.hok p _ hk
          exact (c_EA o e ex)
        · obtain ⟨_, _, _, _, o, _, _, e, ex, _⟩ := I.hok p _ hk
          exact (c_EA o e ex)
      obtain ⟨o, e, ex⟩ := z
      refine ⟨(c_EA o e ex.1), fun a e2 => ?_⟩
      cases e2
      exact (c_EA o e ex.2.1)
    · obtain ⟨o, _, _, _, e, ex, _⟩ := I.hok p _ hk
      refine ⟨(c_EA o e ex.1), fun a e2 => ?_⟩
      cases e2
      exact (c_EA o e ex.2.1)
  | _ => exact False.elim ty
def tBM0 (K : PySem.W.Frag) (T : String) (r : V → List V → Hp → VK → Prop) (to : TE) : TE := fun σ H Q => to σ H fun x H1 => tyV K T x H1 ∧ r x [] H1 Q
def tBM (K : PySem.W.Frag) (T : String) (r : V → List V → Hp → VK → Prop) (to : TE) (t : TA) : TE := fun σ H Q => to σ H fun x H1 => tyV K T x H1 ∧ t σ H1 fun xs H2 => r x xs H2 Q
variable {o e : Expr} {es : List Expr} {to : TE} {t : TA} {name : Str} {apos cpos : Pos} {T id : String} {r : V → List V → Hp → VK → Prop}
theorem pe_bm (pa : PlainAttrs T) (slot : Slot T name id) (hty : typeOf (.builtin id) = pure (.type "method_descriptor")) (hm : MtR X id r) (ho : PE X o to) (ha : PA X (e :: es) t)
    (hbase : attributeBase o name X.env (eval o X.env) = eval o X.env := by rfl)
    (hfew : ((backTo cpos (starEach (e :: es) X.env)).all (fun x => !x.1) && (backToKw cpos (keywordEach [] X.env)).all (fun x => x.1.isSome)
      && decide ((e :: es).length + ([] : List Keyword).length + (if ([] : List Keyword).isEmpty then 0 else 1) < 30)) = true := by rfl)
    (hline : (apos.endLine == cpos.line) = true := by rfl) (hs : starEach (e :: es) X.env = (false, eval e X.env) :: starEach es X.env := by rfl) (hplain : (backTo cpos (starEach es X.env)).any (·.1) = false := by rfl) :
    PE X (.Call (.Attribute o name apos) (e :: es) [] cpos) (tBM X.K T r to t) := by
  intro pins s σ H Q I h
  refine wpAny_Call_method_late hbase hfew hline rfl (thn (ho pins s σ H _ I h) fun v s1 ⟨x, H1, I1, r1, ty, q1⟩ => ?_)
  obtain ⟨h1, h2⟩ := tyV_is I1 r1 ty
  refine (c_EEAAAAA T id pa slot hty h1 h2 ?_)
  have hA := ha cpos pins s1 σ H1 _ I1 q1
  rw [hs] at hA ⊢
  refine Calls.callWith_builtin (by show (false || (backTo cpos (starEach es X.env)).any (·.1)) = false; rw [hplain] <;> rfl) (Calls.evalArgs_plain ?_)
  exact thn hA fun us s2 ⟨vs, H2, I2, r2, q2⟩ => hm pins s2 σ H2 x vs v us Q I2 r1 r2 q2
/- xs.append(e), list.index on a module's tuple .. are MtR facts of 06m -/
end
end L2

namespace L2
open PySem PySem.Spec PyProof.Rows

def MtM (X : Cx) (id : String) (r : V → List V → Hp → VK → Prop) : Prop :=
  ∀ (pins : List (Addr × Obj)) (s : Shared) (σ : St) (H : Hp) (x : V) (xs : List V) (v : Value) (us : List Value) (Q : VK), Inv X pins σ H s → RelV x v → Vals xs us → r x xs H Q →
    wpAny (model X.prog X.w) X.A (call (.builtin id) (v :: us)) (EP X pins σ Q) X.xe s

/-! ### lists of values -/
theorem Vals.one : ∀ {x : V} {us : List Value}, Vals [x] us → ∃ u, us = [u] ∧ RelV x u
  | _, _, .cons r .nil => (c_EA _ rfl r)
theorem Vals.rep {xs : List V} {us : List Value} (h : Vals xs us) : ∀ k : Nat, Vals (List.replicate k xs).flatten (List.replicate k us).flatten
  | 0 => .nil
  | k + 1 => by
    rw [List.replicate_succ, List.replicate_succ, List.flatten_cons, List.flatten_cons]
    exact Vals.append h (Vals.rep h k)
theorem foldl_rep (its : List Value) : ∀ (k : Nat) (acc : List Value),
    List.foldl (fun x1 x2 => x1 ++ x2) acc.toArray (List.replicate k its.toArray) = (acc ++ (List.replicate k its).flatten).toArray
  | 0, acc => by simp
  | k + 1, acc => by
    have e : acc.toArray ++ its.toArray = (acc ++ its).toArray := by simp
    have e2 : (acc ++ its) ++ (List.replicate k its).flatten = acc ++ (List.replicate (k + 1) its).flatten := by
      rw [List.replicate_succ, List.flatten_cons, List.append_assoc]
    rw [← e2, ← foldl_rep its k (acc ++ its), ← e, List.replicate_succ, List.foldl_cons]

section
variable {X : Cx} {pins : List (Addr × Obj)} {σ : St} {H : Hp} {s : Shared} {l b : Addr} {xs ys zs : List V}

/-! ### the two steps: a tracked list is rewritten, a new list is laid -/
theorem Inv.lset {its its' : List Value} {n : Nat} {f : Array Value → Array Value} {t' : Nat} (I : Inv X pins σ H s) (hH : H l = some (.lst xs))
    (e : s.heap.get? l = some { cls := .type "list", data := .seq its.toArray n }) (hf : f its.toArray = its'.toArray) (hv : Vals ys its') (hz : ys.length ≤ sizeLine) :
    Inv X pins σ (upd H l (.lst ys)) { s with heap := s.heap.update l (Obj.mapSeq f), toks := t' } := by
  have q := PySem.IsL.update e f
  rw [hf] at q
  refine I.write (x := l) (e := l) (by rw [hH]; exact trivial) (.inl rfl) (fun b' u hb hu => (Heap.get?_update_other s.heap (Obj.mapSeq f) (Ne.symm hb)).trans hu) ⟨_, q⟩ ?_
  exact (c_AEEA hz its' _ hv q)
theorem Inv.lnew {its : List Value} {t' : Nat} (I : Inv X pins σ H s) (hv : Vals ys its) (hz : ys.length ≤ sizeLine) :
    Inv X pins σ (upd H s.heap.objs.size (.lst ys)) { s with heap := s.heap.push { cls := .type "list", data := .seq its.toArray }, toks := t' } :=
  I.laid (fun _ _ q => Heap.get?_push_of_some _ q) (Nat.le_refl _) (c_AEEA hz its 0 hv (Heap.get?_push_size _ rfl))
theorem Inv.fresh (I : Inv X pins σ H s) : H s.heap.objs.size = none := I.hok.fresh (Nat.le_refl _)
theorem Inv.lstM (I : Inv X pins σ H s) (hH : H l = some (.lst xs)) : xs.length ≤ sizeLine ∧ ∃ (its : List Value) (n : Nat), Vals xs its ∧ xs.length = its.length ∧ s.heap.get? l = some { cls := .type "list", data := .seq its.toArray n } := by
  obtain ⟨z, its, n, r, e⟩ := I.hok l _ hH
  exact (c_AEEAA z its n r r.length e)

theorem notLongL {n : Nat} (h : n ≤ sizeLine) : Builtin.List.listTooLong n = false := by
  unfold Builtin.List.listTooLong
  exact decide_eq_false (by omega)
end

section
variable {X : Cx}

/-! ### methods -/
def rAppend : V → List V → Hp → VK → Prop := fun x vs H Q => ∃ l xs y, x = .ref l ∧ vs = [y] ∧ H l = some (.lst xs) ∧ xs.length < sizeLine ∧ Q .non (upd H l (.lst (xs ++ [y])))
theorem mt_append : MtM X "list.append" rAppend := by
  intro pins s σ H x vs v us Q I rx rv h
  obtain ⟨l, xs, y, rfl, rfl, hH, hz, q⟩ := h
  cases rx
  obtain ⟨u, rfl, ru⟩ := rv.one
  obtain ⟨z, its, n, r, hl, e⟩ := I.lstM hH
  refine call_meets F.slot_list_append (c_EA _ e rfl) F.entry_list_append (F.args_list_append_2 _ _) (PySem.list_append l its.toArray n u (by rw [List.size_toArray]; omega)) ⟨e, ?_⟩
  refine (c_EEAA (.non) _ (I.lset (its' := its ++ [u]) hH e (by simp) (r.append (.cons ru .nil)) ?_) rfl q)
  rw [List.length_append, List.length_singleton]
  omega

def rExtend : V → List V → Hp → VK → Prop := fun x vs H Q => ∃ l b xs zs, x = .ref l ∧ vs = [.ref b] ∧ H l = some (.lst xs) ∧ H b = some (.lst zs) ∧ xs.length + zs.length ≤ sizeLine ∧ Q .non (upd H l (.lst (xs ++ zs)))

def rPop : V → List V → Hp → VK → Prop := fun x vs H Q => ∃ l xs y, x = .ref l ∧ vs = [] ∧ H l = some (.lst xs) ∧ xs[xs.length - 1]? = some y ∧ Q y (upd H l (.lst xs.dropLast))

def rPopAt : V → List V → Hp → VK → Prop := fun x vs H Q => ∃ l xs i k y, x = .ref l ∧ vs = [.int i] ∧ H l = some (.lst xs) ∧ -(2 ^ 63) ≤ i ∧ i < 2 ^ 63 ∧ seqIndex? i xs.length = some k ∧ xs[k]? = some y ∧ Q y (upd H l (.lst (xs.eraseIdx k)))

def rReverse : V → List V → Hp → VK → Prop := fun x vs H Q => ∃ l xs, x = .ref l ∧ vs = [] ∧ H l = some (.lst xs) ∧ Q .non (upd H l (.lst xs.reverse))

def rClear : V → List V → Hp → VK → Prop := fun x vs H Q => ∃ l xs, x = .ref l ∧ vs = [] ∧ H l = some (.lst xs) ∧ Q .non (upd H l (.lst []))

/-! ### list + list, list += list, list * int -/
def rCat : R2 := fun x y H Q => ∃ l b xs zs, x = .ref l ∧ y = .ref b ∧ H l = some (.lst xs) ∧ H b = some (.lst zs) ∧ xs.length + zs.length ≤ sizeLine ∧ ∀ p, H p = none → Q (.ref p) (upd H p (.lst (xs ++ zs)))
theorem op_cat : OpR X (binaryOp .Add) rCat := by
  intro pins s σ H x y v u Q I rx ry h
  obtain ⟨l, b, xs, zs, rfl, rfl, hH, hB, hz, q⟩ := h
  cases rx
  cases ry
  obtain ⟨z, its, n, r, hl, e⟩ := I.lstM hH
  obtain ⟨z2, its2, n2, r2, hl2, e2⟩ := I.lstM hB
  refine PySem.P.add_list e e2 ?_ (by rw [List.size_toArray, List.size_toArray]; omega)
  have ea : its.toArray ++ its2.toArray = (its ++ its2).toArray := by simp
  rw [ea]
  exact (c_EEAA (.ref _) _ (I.lnew (t' := s.toks) (r.append r2) (by rw [List.length_append]; omega)) rfl (q _ I.fresh))
/-- a list times an int (a negative one is nothing) -/
def rRep : R2 := fun x y H Q => ∃ l k xs, x = .ref l ∧ y = .int k ∧ H l = some (.lst xs) ∧ -(2 ^ 63) ≤ k ∧ k < 2 ^ 63 ∧ xs.length * k.toNat ≤ sizeLine ∧
  ∀ p, H p = none → Q (.ref p) (upd H p (.lst (List.replicate k.toNat xs).flatten))
theorem len_rep {α : Type} (xs : List α) (k : Nat) : (List.replicate k xs).flatten.length = k * xs.length := by
  induction k with
  | zero => simp
  | succ k ih => rw [List.replicate_succ, List.flatten_cons, List.length_append, ih, Nat.succ_mul, Nat.add_comm]
theorem op_rep : OpR X (binaryOp .Mult) rRep := by
  intro pins s σ H x y v u Q I rx ry h
  obtain ⟨l, k, xs, rfl, rfl, hH, h1, h2, hz, q⟩ := h
  cases rx
  obtain ⟨t, rfl⟩ := ry
  obtain ⟨z, its, n, r, hl, e⟩ := I.lstM hH
  have hlen : its.toArray.size * k.toNat ≤ sizeLine := by rw [List.size_toArray, ← hl]; exact hz
  have hcap : ¬ its.toArray.size * k.toNat > (2 ^ 63 - 1) / 8 := by
    have : (sizeLine : Nat) ≤ (2 ^ 63 - 1) / 8 := by decide
    omega
  have hfit : ¬ (!Builtin.List.listFitsIndex k) = true := by
    rw [fitsIndex_both h1 h2]
    exact Bool.false_ne_true
  have hlong : ¬ Builtin.List.listTooLong (its.toArray.size * k.toNat) = true := by
    rw [notLongL hlen]
    exact Bool.false_ne_true
  have hnew : List.foldl (fun x1 x2 => x1 ++ x2) #[] (List.replicate (if its.toArray.isEmpty = true then 0 else k.toNat) its.toArray) = (List.replicate k.toNat its).flatten.toArray := by
    have f0 : ∀ m : Nat, List.foldl (fun x1 x2 => x1 ++ x2) #[] (List.replicate m its.toArray) = (List.replicate m its).flatten.toArray := fun m => by
      have := foldl_rep its m []
      rw [List.nil_append] at this
      exact this
    rw [f0]
    cases its with
    | nil => simp
    | cons a r' => rw [if_neg (by simp)]
  refine wpAny_binaryOp_repeat_ref (T := "list") (U := "int") (by decide) (c_EA _ e rfl) (fun s' => typeIs_int s' k t) noFill_list_mul F.fills_int_mul F.slot_int_rmul repeat_list F.slot_int_index.lookup
    (call_meets F.slot_int_rmul (typeIs_int s k t) F.entry_int_rmul (F.args_int_rmul_2 _ _) (int___rmul___int_list k t l its.toArray n)
      ⟨e, (c_AA rfl (c_EA _ e rfl) (call_meets F.slot_list_mul (c_EA _ e rfl) F.entry_list_mul (F.args_list_mul_2 _ _) (AutoListH.list___mul___list_int_3 l its.toArray n k t hfit hcap hlong) ⟨e, ?_⟩))⟩)
  rw [hnew]
  exact (c_EEAA (.ref _) _ (I.lnew (t' := s.toks) (r.rep k.toNat) (by rw [len_rep, Nat.mul_comm]; exact hz)) rfl (q _ I.fresh))

/-! ### del xs[i] -/
end

/-! ### xs[a:b] = ys -/
section
variable {prog : Program} {w : World} {A : Around} {E : Value → Shared → Prop} {s : Shared}
end

section
variable {X : Cx}
end
end L2

namespace Att
open PySem PySem.W PySem.Calls PyProof.Rows

/-! ### the script -/
theorem ints_of_wellAll {P : Params} {h : Heap} : ∀ (ns : List Int) (vs : List Value), WellAll P h vs (ns.map WData.int) → IntsAre vs ns := by
  intro ns
  induction ns with
  | nil =>
    intro vs w
    rw [List.map_nil] at w
    cases w
    exact .nil
  | cons n ns ih =>
    intro vs w
    rw [List.map_cons] at w
    cases w with
    | cons a b =>
      cases a
      exact .cons _ _ (ih _ b)

theorem script_of {l : OpenLaw} {n : Nat} (hn : l.most = some n) {P : Params} {h : Heap} {args : List WData} {vals : List Value}
    (hpre : l.row.toRowW.claim.pre args = true) (hwl : WellAll P h vals args) :
    ∃ a vs ns, vals = [Value.ref a] ∧ args = [WData.list (ns.map WData.int)] ∧ h.get? a = some { cls := .type "list", data := .seq vs.toArray } ∧ IntsAre vs ns ∧ ns.length ≤ n := by
  have hsh : WShape.hasAll [] args [.list .int] = true := (pre_splitW hpre).1
  have hc : l.pre.holds [] { args := args } = true := (pre_splitW hpre).2
  obtain ⟨d, r, rfl, h1, h2⟩ := hasAllW_cons hsh
  obtain rfl := hasAllW_nil h2
  obtain ⟨xs, rfl, h3⟩ := hasW_list h1
  obtain ⟨ns, rfl⟩ := items_int h3
  have hlen : ns.length ≤ n := by
    unfold OpenLaw.pre at hc
    have h4 : (WTm.not (.lt (.lit (.int (n : Int))) (.len (.arg 0)))).holds [] { args := [.list (ns.map .int)] } = true := by
      have h4 := (holds_andW hc).1
      rw [hn] at h4
      exact h4
    have h5 := condW_of h4 (w_not (w_lt w_lit (w_len_list (w_arg rfl))))
    rw [List.length_map] at h5
    refine Nat.le_of_not_lt fun q => ?_
    have q' : (n : Int) < ((ns.length : Nat) : Int) := by omega
    first
      | (rw [decide_eq_true q'] at h5; exact absurd h5 (by decide))
      | (simp at h5; omega)
  cases hwl with
  | cons w1 w2 =>
    cases w2
    cases w1 with
    | list ho hall => exact (c_EEEAAAA _ _ ns rfl rfl ho (ints_of_wellAll ns _ hall) hlen)

theorem post_true (l : OpenLaw) (args : List WData) : l.row.toRowW.claim.post args (.bool true) args = true :=
  postW_of (r := l.row.toRowW) (X := (true == true))
    (show WShape.has [] (.bool true) .bool = true by first | rfl | decide | simp [WShape.has, WShape.arms, WShape.armsAll])
    (show (WTm.eq .res (.lit (.bool true))).value [] { args := args, res := some (.bool true), after := args } = some (.bool (true == true)) from w_eq_bool (w_res rfl) w_lit) rfl

/-! ### the attachment: holds_open's last premise (the goal 'hc' behind k_head) from a wpAny of the law's body -/

/-- the same from a codeAny of the CALL (for a layer whose function contracts speak of calls) -/
theorem attach_call {l : OpenLaw} {n : Nat} {q : Program} {loose : List Str} {XP : (Str → Option Value) → Heap → Prop} {YP : World → Heap → Prop} {d : DefRec}
    (hn : l.most = some n) (hdf : d.params.defaults = [])
    (call : ∀ (w : World) (s₀ s₁ : Shared) (mg mb : Str → Option Value) (fa : Addr) (o : Obj) (pm cd doc : Value) (a : Addr) (vs : List Value) (ns : List Int),
      Ground q loose [] XP w s₀ mg mb s₁.heap → YP w s₁.heap →
      s₁.heap.get? fa = some o → o.data = .func (docDef d.name d.params d.body d.scope pm cd doc) → s₁.heap.CodeRec cd d.name → mg d.name = some (.ref fa) →
      s₁.heap.get? a = some { cls := .type "list", data := .seq vs.toArray } → IntsAre vs ns → ns.length ≤ n → s₁.gens = #[] →
      codeAny (model l.prog w) callerA (.call (.ref fa) ⟨[.ref a], []⟩) (fun r s' => r = .ok (.ret (.bool true)) ∧ OldK s₁.heap s'.heap ∧ s'.os = s₁.os ∧ AllBare s'.gens) s₁) :
    WalkO q loose XP YP l.row.toRowW d [] (fun f vs => PySem.call f vs) := by
  intro w s₀ s₁ mg mb G Y fa o pm cd doc dV kV ho hd hcd hD hmg hg args vals as hpre hlay hrd hwl hlo
  obtain rfl : dV = .none := Dflts.none hD hdf
  obtain rfl : kV = .none := Dflts.noKw hD
  obtain ⟨a, vs, ns, rfl, rfl, hobj, hints, hlen⟩ := script_of hn hpre hwl
  refine enter_call (codeAny_mono (call w s₀ s₁ mg mb fa o pm cd doc a vs ns G Y ho (fd_plain hd) hcd hmg hobj hints hlen hg) fun r s' hq => ?_)
  obtain ⟨rfl, h2, h3, h4⟩ := hq
  exact (c_AAA (.inl (c_EEEAAAA (.bool true) (.bool true) ([]) rfl (fun _ => rfl) (.bool true) (post_true l _) (fun _ => ⟨List.Pairwise.nil, fun _ hm => (nomatch hm)⟩))) h2 h3 h4)


/-! ### rules over ANY heap (no ledger) from facts about the written part K: the library's own take a ledger (News) for what they write -/
section
variable {prog : Program} {w : World} {A : Around} {E : Value → Shared → Prop} {s : Shared} {K : Frag}





/-! the whole heap as the ledger: makes every rule that writes through a ledger a rule over any heap -/
def noObjs (h : Heap) : Heap := { h with objs := #[] }
def ledger (h : Heap) (L d : Addr) : List (Addr × Obj) := (List.range h.objs.size).filterMap fun a => if a = L ∨ a = d then none else (h.get? a).map fun o => (a, o)

end
end Att

namespace L2
open PySem PySem.Spec PyProof.Rows

theorem vals_ints : ∀ {vs : List Value} {ns : List Int}, IntsAre vs ns → Vals (ns.map V.int) vs
  | _, _, .nil => .nil
  | _, _, .cons n t h => .cons ⟨t, rfl⟩ (vals_ints h)

/-- nothing is tracked but the script, known to the object (or it is an object of the module) -/
def Only (H : Hp) : Prop := ∀ b, H b = none ∨ ∃ o xs, H b = some (.frz o (.lst xs))

/-- THE HEAD: the law's promise, at the heap behind the top. F, the promise of the law's def, may use that base is part of the heap (so K.In base, base.Ns mainGlobals mg stand in Mod) -/
theorem law_call {P : Program} {w : World} {K : PySem.W.Frag} {mg mb : Str → Option Value} {CX : CXT} {k : Nat} {fa a : Addr} {fd : FuncData} {x : Str} {sp : Sp} {s₁ : Shared} {vs : List Value} {ns : List Int}
    (KX : K.In s₁.heap) (hns : s₁.heap.Ns mainGlobals mg) (hb : s₁.heap.Ns builtinsNs mb) (hbb : ∀ x : Str, x ≠ "__name__" → mb x = bootBuiltins x) (hlim : s₁.heap.NoLimit) (hg : s₁.gens = #[])
    (ha : s₁.heap.get? a = some { cls := .type "list", data := .seq vs.toArray }) (hi : IntsAre vs ns) (hl : ns.length ≤ sizeLine) (hr : Room k callerA)
    (F : ∀ base : Heap, K.In base → base.Ns mainGlobals mg → FnOk P w K mg base CX k fa fd [x] sp) (hbind : ∀ (s : Shared) (u : Value), BindsTo s fd ⟨[u], []⟩ [(x, u)])
    (hsp : ∀ H : Hp, Only H → SqL K H a (ns.map V.int) → sp [.ref a] H (fun v _ => v = .bl true) fun _ _ _ => False)
    (hCX : ∀ H e s', CX [] H s₁ (fun _ _ _ => False) e s' → False) :
    codeAny (model P w) callerA (.call (.ref fa) ⟨[.ref a], []⟩) (fun r s' => r = .ok (.ret (.bool true)) ∧ OldK s₁.heap s'.heap ∧ s'.os = s₁.os ∧ AllBare s'.gens) s₁ := by
  have rv := vals_ints hi
  have lenV := hi.length
  -- from an abstract heap in which nothing but the script may be tracked
  have core : ∀ H : Hp, Only H → SqL K H a (ns.map V.int) → HOk P w H s₁.heap → (∀ b, H b ≠ none → b = a) → (H a ≠ none → K.lookup a = none) →
      codeAny (model P w) callerA (.call (.ref fa) ⟨[.ref a], []⟩) (fun r s' => r = .ok (.ret (.bool true)) ∧ OldK s₁.heap s'.heap ∧ s'.os = s₁.os ∧ AllBare s'.gens) s₁ := by
    intro H hO hS hok hA hK
    have base_of : ∀ {b : Addr} {o : Obj}, s₁.heap.get? b = some o → H b = none → (hidT s₁.heap H).get? b = some o := fun e n => hidT_get e n
    have noA : ∀ {b : Addr} {o : Obj} {es : Array DictEntry} {ep : Nat}, s₁.heap.get? b = some o → o.data = .dict es ep → H b = none := fun {b o es ep} e d => by
      cases q : H b with
      | none => rfl
      | some u =>
        have e' : b = a := hA b (by rw [q]; simp)
        subst e'
        rw [ha] at e; cases e
        have d' : Data.seq vs.toArray _ = Data.dict es ep := d
        cases d'
    have nsK : ∀ {b : Addr} {m : Str → Option Value}, s₁.heap.Ns b m → (hidT s₁.heap H).Ns b m := fun {b m} ⟨o, es, ep, e, d, r⟩ => (c_EEEAA o es ep (base_of e (noA e d)) d r)
    have hKb : K.In (hidT s₁.heap H) := fun b o e => base_of (KX b o e) (by
      cases q : H b with
      | none => rfl
      | some u =>
        have e' : b = a := hA b (by rw [q]; simp)
        subst e'
        rw [hK (by rw [q]; simp)] at e; cases e)
    have hM : Mod K mg (hidT s₁.heap H) := ⟨hKb, nsK hns, (c_EA mb (nsK hb) hbb), let ⟨mc, h1, h2⟩ := hlim; (c_EA mc (nsK h1) h2)⟩
    have e0 : Env0 P w K mg (hidT s₁.heap H) callerA [] s₁ H := ⟨rfl, hM, fun b o e => of_hidT e, Nat.le_of_eq (hidT_size _ _), trivial, fun b hb => absurd (show b ∈ ([] : List Addr) from hb) (by simp), hok, .of_eq hg⟩
    refine codeAny_mono ((F _ hKb (nsK hns)).run callerA [] s₁ H ⟨[.ref a], []⟩ [.ref a] [.ref a] _ _ hr e0 (hbind s₁ (.ref a)) (.cons rfl .nil) (hsp H hO hS)) fun r s' h => ?_
    cases r with
    | error e => exact (hCX H e s' h).elim
    | ok fl =>
      cases fl with
      | next => exact False.elim h
      | brk => exact False.elim h
      | cont => exact False.elim h
      | ret u =>
        obtain ⟨v, H', os, bare, un, hok', r', q⟩ := h
        have q' : v = .bl true := q
        subst q'
        obtain rfl : u = Value.bool true := r'
        refine (c_AAA rfl (OldK.of_keep fun b o e => ?_) os bare)
        cases q : H b with
        | none => exact un.keep b o e q (by intro z; exact absurd (show b ∈ ([] : List Addr) from z) (by simp)) (by simp)
        | some u =>
          rcases hO b with z | ⟨ob, xs, z⟩
          · rw [q] at z; cases z
          · have z2 := un.frzs b ob _ z
            obtain ⟨e1, _⟩ := hok b _ z
            obtain ⟨e2, _⟩ := hok' b _ z2
            rw [e] at e1; cases e1
            exact e2
  cases hk : K.lookup a with
  | some o =>
    -- the script is one of the module's own objects
    have e := KX a o hk
    rw [ha] at e
    cases e
    refine core (fun _ => none) (fun _ => .inl rfl) (.inr (c_EEEAAAAA _ vs.toArray _ hk rfl rfl rfl (by rw [List.size_toArray, lenV]; exact hl) (by simpa using rv))) (fun b u z => by have z' : (none : Option HO) = some u := z; cases z') (fun b z => absurd rfl z) fun z => absurd rfl z
  | none =>
    refine core (fun b => if b = a then some (.frz { cls := .type "list", data := .seq vs.toArray } (.lst (ns.map V.int))) else none) (fun b => ?_) (.inl (.inr ⟨{ cls := .type "list", data := .seq vs.toArray }, if_pos rfl⟩)) (fun b u z => ?_) (fun b z => ?_) fun _ => hk
    · by_cases hb : b = a
      · exact .inr (c_EE _ _ (if_pos hb))
      · exact .inl (if_neg hb)
    · by_cases hb : b = a
      · have z' := (if_pos hb).symm.trans z
        cases z'
        subst hb
        exact ⟨ha, (c_AEEA (by rw [List.length_map]; exact hl) vs _ rv ha)⟩
      · have z' := (if_neg hb).symm.trans z
        cases z'
    · by_cases hb : b = a
      · exact hb
      · exact absurd (if_neg hb) z
end L2

namespace L2
open PySem PySem.Spec PyProof.Rows

abbrev KOf {K : PySem.W.Frag} {h : Heap} (_ : K.In h) : PySem.W.Frag := K

/-- the goal that k_head leaves (case hc), from the law's promise. F gives the function object fd (K's own) once, then the promise over every base -/
theorem walk_of {l : PySem.W.OpenLaw} {n k : Nat} {q : Program} {loose : List Str} {XP : (Str → Option Value) → Heap → Prop} {YP : World → Heap → Prop} {d : DefRec} {K : Params → PySem.W.Frag} {CX : World → CXT} {sp : World → Sp} {x : Str}
    (hn : l.most = some n) (hn2 : n ≤ sizeLine) (hdf : d.params.defaults = []) (hr : Room k callerA)
    (hY : ∀ (w : World) (h : Heap), YP w h → (K w.params).In h)
    (F : ∀ (w : World) (mg : Str → Option Value) (fa : Addr) (h : Heap), (K w.params).In h → h.Ns mainGlobals mg → mg d.name = some (.ref fa) →
      ∃ fd : FuncData, (∀ (s : Shared) (u : Value), BindsTo s fd ⟨[u], []⟩ [(x, u)]) ∧
        ∀ base : Heap, (K w.params).In base → base.Ns mainGlobals mg → FnOk l.prog w (K w.params) mg base (CX w) k fa fd [x] (sp w))
    (hsp : ∀ (w : World) (H : Hp) (a : Addr) (ns : List Int), ns.length ≤ n → Only H → SqL (K w.params) H a (ns.map V.int) → sp w [.ref a] H (fun v _ => v = .bl true) fun _ _ _ => False)
    (hCX : ∀ (w : World) (H : Hp) (s : Shared) (e : Value) (s' : Shared), CX w [] H s (fun _ _ _ => False) e s' → False) :
    PySem.W.WalkO q loose XP YP l.row.toRowW d [] (fun f vs => PySem.call f vs) := by
  refine Att.attach_call hn hdf fun w s₀ s₁ mg mb fa o pm cd doc a vs ns G Y ho hd hcd hmg hobj hints hlen hg => ?_
  have KX := hY w _ Y
  obtain ⟨fd, hb, hF⟩ := F w mg fa _ KX G.T.g hmg
  exact law_call KX G.T.g G.T.b G.T.builtins G.T.nolimit hg hobj hints (Nat.le_trans hlen hn2) hr hF hb (fun H hO hS => hsp w H a ns hlen hO hS) fun H e s' => hCX w H s₁ e s'
end L2

/- THE LAST THEOREM (shape; LID, My.* are yours):
   My.Adr: a structure of the addresses that your layer names (classes, functions); My.Txt K t: a structure (Prop) of the equations over K;
   My.txt_mk : {K} {implicit addresses ..} (e1 : nsIn K mainGlobals "law" = some (some (.ref f))) (e2 : K.lookup f = some ⟨oc, od, .func (fnOf "law" "law" params body scope dV kV doc pm an cdv ct), sl⟩) (e3 : codeIn K cdv "law" = true) .. : ∃ t, My.Txt K t

set_option maxRecDepth 100000 in
set_option maxHeartbeats 0 in
theorem PySem.Challenge.cw_LID_holds : PySem.Challenge.rw_LID.Holds := by
  w_on; o_law; k_head; (case hw => w_witness2)
  k_fill
  refine L2.walk_of (l := PySem.Challenge.rw_LID) (n := 63) (k := 40) (x := "script") (CX := fun w => ..) (sp := fun _ => My.sp_law) rfl (by decide) rfl ⟨rfl, by decide, by decide⟩ (fun w h Y => PySem.W.kIn_of Y) ?F ?S ?C
  case F =>
    intro w mg fa h KX G hmg
    have T : ∃ t, My.Txt (L2.KOf KX) t := by
      dsimp only [L2.KOf]                          -- K must stand as «<heap const> w.params» for k_is
      refine' My.txt_mk ?e1 ?e2 ?e3 ..
      (case e1 => PySem.W.k_is)                    -- in the order: a name -> its address -> its object -> its parts
      (case e2 => PySem.W.k_is)
      ..
    obtain ⟨t, T⟩ := T
    have e0 := hmg.symm.trans (PySem.W.mg_of KX G T.law)
    cases e0                                       -- fa is the law's own address
    exact ⟨_, fun s u => .of_eq rfl, fun base kb nb => My.law_fn T kb nb⟩     -- if «.of_eq rfl» comes too early: refine' ⟨_, ?b, fun base kb nb => My.law_fn T kb nb⟩; exact fun s u => .of_eq rfl
  case S => exact fun w H a ns hl hO hS => ..
  case C => exact ..
(the tactic k_is has no namespace: write k_is) -/

/-! SHORT WORDS over the layer: a def of the text, its body, what a loop and a test want. -/
namespace L2
open PySem PySem.Spec PyProof.Rows

/-! ### the text by places -/
/-- the j-th statement of a class's body -/
def inClass (s : Stmt) (j : Nat) : Stmt := match s with
  | .ClassDef _ _ _ body _ _ _ _ _ _ _ => body.getD j (.Pass ⟨0, 0, 0, 0⟩)
  | _ => .Pass ⟨0, 0, 0, 0⟩
def defArgs (s : Stmt) : Arguments := match s with
  | .FunctionDef _ a _ _ _ _ _ _ _ _ => a
  | _ => { posonlyargs := [], args := [], vararg := none, kwonlyargs := [], kw_defaults := [], kwarg := none, defaults := [] }
def defBody (s : Stmt) : List Stmt := match s with
  | .FunctionDef _ _ b _ _ _ _ _ _ _ => b
  | _ => []
def defScope (s : Stmt) : Scope := match s with
  | .FunctionDef _ _ _ _ _ _ sc _ _ _ => sc
  | _ => { kind := .function, names := [], isGenerator := false, isCoroutine := false }

/-! ### no exception leaves a def -/
abbrev CX0 : CXT := fun _ _ _ _ _ _ => False
abbrev E0 : XK := fun _ _ _ => False
theorem pass0 {X : Cx} : Passes CX0 X E0 := fun _ _ _ _ _ _ _ h => h.elim

/-! ### a def (or method) of the text as it stands behind the top -/
structure Fun (K : PySem.W.Frag) (x qual : Str) (st : Stmt) (f : Addr) (fd : FuncData) : Prop where
  ex : ∃ (oc : Value) (od : Option Addr) (kV doc pm : Value) (an : Option Addr) (cdv ct : Value) (osl : Array (Option Value)),
    fd = PySem.W.fnOf x qual (defArgs st) (defBody st) (defScope st) .none kV doc pm an cdv ct ∧ K.lookup f = some ⟨oc, od, .func fd, osl⟩ ∧ PySem.W.codeIn K cdv qual = true
  kp : PySem.W.keepIn K (.ref f) = true
section
variable {P : Program} {w : World} {K : PySem.W.Frag} {mg : Str → Option Value} {base : Heap}
/-- THE RULE for a def: its body as a term of rules, and the reading of that term -/
theorem Fun.ok {x qual : Str} {st : Stmt} {f : Addr} {fd : FuncData} {N ps : List Str} {k : Nat} {sp : Sp} (F : Fun K x qual st f fd) (S : FnScope N ps (defScope st)) (len : ∀ vs H Q E, sp vs H Q E → vs.length = ps.length)
    (hbody : ∀ (cdv : Value) (A : Around) (outer : List Env) (s : Shared) (H : Hp) (vs : List V) (Q : VK) (E : XK), Room k (A.deeper (envOfC qual (defScope st) s.heap.objs.size f cdv)) → sp vs H Q E →
      ∃ t, PSs (cxOf CX0 P w K mg base N qual (defScope st) f cdv A outer s H E).nox (defBody st) t ∧ t { nx := fun _ H' => Q .non H', rt := Q } (start N vs) H) : FnOk P w K mg base CX0 (k + 1) f fd ps sp := by
  obtain ⟨oc, od, kV, doc, pm, an, cdv, ct, osl, rfl, lk, hcd⟩ := F.ex
  refine fn_of lk hcd S len fun A outer s H vs Q E hr hsp => ?_
  obtain ⟨t, h, q⟩ := hbody cdv A outer s H vs Q E hr hsp
  exact (c_EA t h.nox q)
/-- how its arguments bind (no defaults): h is «fun _ _ _ _ _ _ us hl => match us, hl with | [_, _], _ => rfl», one _ a parameter -/
theorem Fun.binds {x qual : Str} {st : Stmt} {f : Addr} {fd : FuncData} {ps : List Str} (F : Fun K x qual st f fd)
    (h : ∀ (kV doc pm : Value) (an : Option Addr) (cdv ct : Value) (us : List Value), us.length = ps.length → bindArgs (PySem.W.fnOf x qual (defArgs st) (defBody st) (defScope st) .none kV doc pm an cdv ct) ⟨us, []⟩ = pure (ps.zip us)) : Binds K fd ps [] := by
  obtain ⟨oc, od, kV, doc, pm, an, cdv, ct, osl, rfl, lk, hcd⟩ := F.ex
  exact .all (h kV doc pm an cdv ct)
theorem fun_mk {x qual : Str} {st : Stmt} {f : Addr} {oc : Value} {od an : Option Addr} {osl : Array (Option Value)} {kV doc pm cdv ct : Value} (l : K.lookup f = some ⟨oc, od, .func (PySem.W.fnOf x qual (defArgs st) (defBody st) (defScope st) .none kV doc pm an cdv ct), osl⟩)
    (c : PySem.W.codeIn K cdv qual = true) (k : PySem.W.keepIn K (.ref f) = true) : Fun K x qual st f (PySem.W.fnOf x qual (defArgs st) (defBody st) (defScope st) .none kV doc pm an cdv ct) := ⟨(c_EEEEEEEEEAA oc od kV doc pm an cdv ct osl rfl l c), k⟩
end
theorem small1000 {n : Nat} (h : n ≤ 1000) : n < sizeLine := Nat.lt_of_le_of_lt h (by decide)

/-! ### expressions in short: the name that stands in the i-th slot -/
section
variable {X : Cx}
theorem pv (i : Nat) {x : Str} {pos : Pos} (hN : X.N[i]? = some x := by rfl) (hv : Vis X.env.scope x := by first | exact Or.inl rfl | exact Or.inr (Or.inl rfl) | exact Or.inr (Or.inr rfl)) (hd : (x == ("__debug__" : Str)) = false := by decide)
    (hcd : (x == ("__classdict__" : Str)) = false := by decide) : PE X (.Name x pos) (tVar i) := pe_var hN hv hd hcd
end

/-! ### tests -/
theorem iteF {A B : Prop} (h : B) : if false = true then A else B := by
  rw [if_neg Bool.false_ne_true]
  exact h
theorem iteT {A B : Prop} (h : A) : if true = true then A else B := by
  rw [if_pos rfl]
  exact h
theorem ite2 {c A B : Prop} [Decidable c] (h1 : c → A) (h2 : ¬ c → B) : if c then A else B := by
  by_cases h : c
  · rw [if_pos h]
    exact h1 h
  · rw [if_neg h]
    exact h2 h
theorem iteNS {c A B : Prop} [Decidable c] (hc : c) (h : B) : if (!decide c) = true then A else B := by
  rw [decide_eq_true hc]
  exact iteF h

/-! ### heaps -/
/-- all that was tracked is as it was -/
def Same (H H' : Hp) : Prop := ∀ b o, H b = some o → H' b = some o
theorem Same.refl (H : Hp) : Same H H := fun _ _ h => h
theorem Same.trans {H H1 H2 : Hp} (a : Same H H1) (b : Same H1 H2) : Same H H2 := fun c o h => b c o (a c o h)
theorem Same.free {H H' : Hp} (e : Same H H') {l : Addr} (h : H' l = Option.none) : H l = Option.none := by
  cases q : H l with
  | none => rfl
  | some o =>
    rw [e l o q] at h
    cases h
theorem Same.seq {K : PySem.W.Frag} {H H' : Hp} {a : Addr} {xs : List V} (e : Same H H') (h : SqL K H a xs) : SqL K H' a xs := by
  rcases h with (h | ⟨o, h⟩) | h
  · exact .inl (.inl (e _ _ h))
  · exact .inl (.inr ⟨o, e _ _ h⟩)
  · exact .inr h

end L2
set_option maxHeartbeats 4000000
/-! More rules over the hand layer: records that turn, enumerate, zip, comprehensions, isinstance, sum, all, any, min of three, == of lists. -/
namespace L2
open PySem PySem.Spec PyProof.Rows

/-! ### untracked records of ours -/
section
variable {X : Cx} {pins : List (Addr × Obj)} {σ : St} {H : Hp} {s : Shared} {h' : Heap}
theorem Inv.turnedL {t' : Nat} {fp : List Addr} (I : Inv X pins σ H s) (hf : ∀ b ∈ fp, FpOk X pins H b) (k : ∀ b o, b ∉ fp → s.heap.get? b = some o → h'.get? b = some o) : Inv X pins σ H { s with heap := h', toks := t' } := by
  have nit : ∀ b u, H b = some u → b ∉ fp := fun b u e z => by
    have := (hf b z).1
    rw [e] at this
    cases this
  refine I.step (g' := s.gens) (d' := s.drawn) (ch := fp) (fun b hb => ?_) (fun b o _ _ hc e _ => k b o hc e) (fun b o _ _ hc e _ => ⟨o.slots, k b o hc e⟩) (fun _ _ _ _ n => n)
    (fun b o hc e => ⟨o, k b o hc e⟩) (fun _ _ e => e) (fun _ _ _ e => e) (fun b ps e => ⟨#[], by rw [e]; simp⟩) (fun m hm => ?_) (fun b u e => ?_) I.bare
  · obtain ⟨f0, f1, f2, f3, f4, f5⟩ := hf b hb
    exact (c_AAA f3 f1 f4 f5)
  · obtain ⟨o, es, ep, ho, r⟩ := hm
    exact (c_EEEA o es ep (k _ o (fun z => (hf _ z).2.1 rfl) ho) r)
  · refine (I.hok b u e).stay (fun c v hc q => k c v ?_ q) (fun _ q => q) fun _ _ q => q
    rcases hc with z | z
    · rw [z]; exact nit b u e
    · exact nit c _ z
/-- an untracked object of ours is tracked from now on -/
theorem Inv.track {T : Addr} {o : HO} (I : Inv X pins σ H s) (f : FpOk X pins H T) (new : ObjOk X.prog X.w (upd H T o) s.heap T o) : Inv X pins σ (upd H T o) s := by
  obtain ⟨f0, f1, f2, f3, f4, f5⟩ := f
  have ne : ∀ b u, H b = some u → b ≠ T := fun b u e z => by rw [z, f0] at e; cases e
  refine I.step (h' := s.heap) (H' := upd H T o) (g' := s.gens) (d' := s.drawn) (t' := s.toks) (ch := [T]) (fun b hb => ?_) (fun b o _ _ hc e _ => e) (fun b o _ _ hc e _ => ⟨o.slots, e⟩) (fun b o hc e n => ?_)
    (fun b o hc e => ⟨o, e⟩) (fun b xs e => ?_) (fun b ob u e => ?_) (fun b ps e => ⟨#[], ?_⟩) (fun m hm => hm) (fun b u e => ?_) I.bare
  · have e : b = T := by simpa using hb
    subst e
    exact (c_AAA f3 f1 f4 f5)
  · rw [upd_ne (fun z => hc (by simp [z]))]; exact n
  · rw [upd_ne (ne _ _ e)]; exact e
  · rw [upd_ne (ne _ _ e)]; exact e
  · rw [upd_ne (ne _ _ e), e]; simp
  · by_cases hb : b = T
    · subst hb
      rw [upd_same] at e
      cases e
      exact new
    · rw [upd_ne hb] at e
      refine (I.hok b u e).stay (fun _ _ _ q => q) (fun c q => ?_) fun c xs q => ?_
      · rw [upd_ne (ne _ _ q)]; exact q
      · rw [upd_ne (ne _ _ q)]; exact q
end

/-! ### enumerate(a list) -/
def Ite (K : PySem.W.Frag) (a : Addr) : It :=
  ⟨fun i H => ∃ xs x, SqL K H a xs ∧ xs[i]? = some x, fun i H x H' => ∃ T, H T = none ∧ x = .ref T ∧ ∀ xs, SqL K H a xs → ∃ y, xs[i]? = some y ∧ H' = upd H T (.tup [.int i, y]), fun i H => ∃ xs, SqL K H a xs ∧ xs.length ≤ i⟩
theorem turn_enum {P : Program} {w : World} {K : PySem.W.Frag} {elts : List Expr} {k : Nat} {pos : Pos} (a it e : Addr) (hei : e ≠ it) :
    Turn P w K (.Tuple elts k pos) (Ite K a) [e, it] e (fun i h => (∃ old, IsEnum h e it i old) ∧ h.IsListIter it a i) where
  mem := by simp
  obj := fun i h st b hb => by
    obtain ⟨⟨old, he⟩, o, e2, c, d⟩ := st
    have hb' : b = e ∨ b = it := by simpa using hb
    rcases hb' with rfl | rfl
    · exact (c_EA _ he (fun v z => nomatch z))
    · exact (c_EA o e2 (fun v z => by rw [d] at z; cases z))
  keep := fun i h h' st k => by
    obtain ⟨⟨old, he⟩, hit⟩ := st
    exact ⟨⟨old, k e (by simp) _ he⟩, hit.at fun o x => k it (by simp) o x⟩
  item := by
    intro X hP hw hK hc i pins s σ H E I hf st hg
    subst hP hw hK
    obtain ⟨⟨old, he⟩, hit⟩ := st
    obtain ⟨xs, x, hq, hx⟩ := hg
    obtain ⟨its, rv, p, hz⟩ := I.list hq
    obtain ⟨u, hu, ru⟩ := rv.get hx
    refine wpAny_pyNext_enum_item he hit p.isList (x := u) (by simpa using hu) hei fun h' ho hit' hT hsz hk => ?_
    refine (c_EA _ rfl ?_)
    refine wpAny_letOwnedTupleGo_enum ho fun h'' he' hs' => ?_
    have nT : ∀ b, s.heap.get? b ≠ none → s.heap.objs.size ≠ b := fun b hb z => hb (Heap.get?_none_of_le (Nat.le_of_eq z))
    have Te : s.heap.objs.size ≠ e := Nat.ne_of_gt (Heap.lt_size he)
    have Ti : s.heap.objs.size ≠ it := by obtain ⟨o, q, _⟩ := hit; exact Nat.ne_of_gt (Heap.lt_size q)
    have I1 : Inv X pins σ H { s with heap := h'', toks := s.toks + 1 } := I.turnedL (fp := [e, it]) hf fun b o hb q => by
      have hb' : b ≠ e ∧ b ≠ it := by simpa using hb
      exact (hs'.2 b hb'.1).trans (hk b o hb'.1 hb'.2 q)
    have fT : FpOk X pins H s.heap.objs.size := I.fpOk (Nat.le_refl _) I.fresh
    refine (c_EEAAAA (.ref s.heap.objs.size) (upd H s.heap.objs.size (.tup [.int i, x])) (I1.track fT ?_) rfl (c_EAA _ I.fresh rfl (fun ys hy => (c_EA x (by rw [I.list_inj hy hq]; exact hx) rfl))) ⟨⟨u, by simpa using he'⟩, hit'.at fun o q => (hs'.2 it (Ne.symm hei)).trans q⟩ (fun b hb => ?_))
    · exact (c_AEA (by show 2 ≤ sizeLine; decide) ([.int i s.toks, u]) (.cons ⟨_, rfl⟩ (.cons ru .nil)) (c_EAAE _ ((hs'.2 _ Te).trans hT) rfl _ rfl))
    · rw [upd_ne ?_]
      · exact (hf b hb).1
      · have hb' : b = e ∨ b = it := by simpa using hb
        rcases hb' with rfl | rfl
        · exact Ne.symm Te
        · exact Ne.symm Ti
  done := by
    intro X hP hw hK hc i pins s σ H E I hf st hg
    subst hP hw hK
    obtain ⟨⟨old, he⟩, hit⟩ := st
    obtain ⟨xs, hq, hx⟩ := hg
    obtain ⟨its, rv, p, hz⟩ := I.list hq
    have hl := rv.length
    refine wpAny_pyNext_enum_end (I.ok.hd hc) he hit p.isList (by simp; omega) fun h' eb => ⟨rfl, I.turnedL (t' := s.toks) (fp := [e, it]) hf fun b o hb q => ?_⟩
    have hb' : b ≠ e ∧ b ≠ it := by simpa using hb
    exact eb b o hb'.2 q
  self := fun _ _ _ _ _ st h => by
    obtain ⟨⟨old, he⟩, hit⟩ := st
    exact wpAny_pyIter_enum he h
section
variable {X : Cx} {elts : List Expr} {k : Nat} {tpos : Pos}
def iEnum (K : PySem.W.Frag) (ta : TA) : TI := fun σ H R => ta σ H fun vs H1 => ∃ a, vs = [.ref a] ∧ (∃ xs, SqL K H1 a xs) ∧ R (Ite K a) H1
theorem pi_enum {l : Expr} {ta : TA} {p pos : Pos} (hg : Gl X "enumerate") (hm : X.mg "enumerate" = none) (ha : PA X [l] ta) (hs : starEach [l] X.env = [(false, eval l X.env)] := by rfl) : PI X (.Tuple elts k tpos) (.Call (.Name "enumerate" p) [l] [] pos) (iEnum X.K ta) := by
  intro pins s σ H R I h
  refine Call_ (ld_blt I hg hm boot_enumerate (PyProof.Rows.callWith_type1 (thn (ha pos pins s σ H _ I h) fun us s1 ⟨vs, H1, I1, r1, q1⟩ => ?_) hs rfl))
  obtain ⟨a, e, ⟨xs, hq⟩, q⟩ := q1
  subst e
  obtain ⟨u, rfl, ru⟩ := vals1 r1
  cases ru
  obtain ⟨its, rv, p, hz⟩ := I1.list hq
  refine call_enumerate_list p.isList fun h' hE hI hsz hk => ?_
  refine wpAny_pyIter_enum hE ?_
  refine (c_EEEEEAAAAA (s1.heap.objs.size + 1) ([s1.heap.objs.size + 1, s1.heap.objs.size]) _ _ H1 rfl (I1.kept (t' := s1.toks) hk) (turn_enum a s1.heap.objs.size (s1.heap.objs.size + 1) (Nat.succ_ne_self _)) ⟨⟨_, hE⟩, hI⟩ (fun b hb => ?_) q)
  have hb' : b = s1.heap.objs.size + 1 ∨ b = s1.heap.objs.size := by simpa using hb
  have hle : s1.heap.objs.size ≤ b := by rcases hb' with e | e <;> (have e' : b = _ := e; rw [e'] <;> omega)
  exact I1.fpOk hle (I1.hok.fresh hle)
end

/-! ### zip(a list, a list) -/
def Itz (K : PySem.W.Frag) (a b : Addr) : It :=
  ⟨fun i H => ∃ xs ys x y, SqL K H a xs ∧ SqL K H b ys ∧ xs[i]? = some x ∧ ys[i]? = some y,
   fun i H x H' => ∃ T, H T = none ∧ x = .ref T ∧ ∀ xs ys, SqL K H a xs → SqL K H b ys → ∃ u v, xs[i]? = some u ∧ ys[i]? = some v ∧ H' = upd H T (.tup [u, v]),
   fun i H => ∃ xs ys, SqL K H a xs ∧ SqL K H b ys ∧ (xs.length ≤ i ∨ ys.length ≤ i)⟩
section
variable {X : Cx} {elts : List Expr} {k : Nat} {tpos : Pos}
def iZip (K : PySem.W.Frag) (ta : TA) : TI := fun σ H R => ta σ H fun vs H1 => ∃ a b, vs = [.ref a, .ref b] ∧ (∃ xs, SqL K H1 a xs) ∧ (∃ ys, SqL K H1 b ys) ∧ R (Itz K a b) H1
end
end L2
set_option maxHeartbeats 4000000
/-! A list comprehension, as an expression and as the value of an assignment. -/
namespace L2
open PySem PySem.Spec PyProof.Rows

/-! ### its tests -/
def PF (X : Cx) (ifs : List Expr) (t : TT) : Prop :=
  ∀ (pins : List (Addr × Obj)) (s : Shared) (σ : St) (H : Hp) (Q : Bool → Hp → Prop), Inv X pins σ H s → t σ H Q →
    wpAny (model X.prog X.w) X.A (forIn ifs true fun c r => if r = true then do let ok ← isTrue c X.env (eval c X.env); pure (ForInStep.yield ok) else pure (ForInStep.yield r)) (TP X pins σ Q) X.xe s
def tYes : TT := fun _ H Q => Q true H
theorem pf_nil {X : Cx} : PF X [] tYes := fun _ _ _ H _ I h => wpAny_tests_nil (c_EA H I h)

/-! ### the loop, with a tuple as its target too -/
section
variable {prog : Program} {w : World} {A : Around} {R : Result → Shared → Prop} {s : Shared}
theorem comp_loop {elt target iter : Expr} {ifs : List Expr} {scope : Scope} {pos : Pos} {it acc : Value} {env : Env} (I : Nat → Shared → Prop)
    (turn : ∀ n s, I n s → wpAny (model prog w) A (pyNext it) (fun r s₁ => match r with
      | none => R (.ok .next) s₁
      | some v => wpAny (model prog w) A (letOwnedTupleGo target it v) (fun _ s₀ => wpAny (model prog w) A (assign target env v) (fun _ s₂ =>
          wpAny (model prog w) A (forIn ifs true fun c r => if r = true then do let ok ← isTrue c env (eval c env); pure (ForInStep.yield ok) else pure (ForInStep.yield r)) (fun ok s₃ =>
            if ok = true then wpAny (model prog w) A (eval elt env) (fun x s₄ =>
              wpAny (model prog w) A (call (.builtin "list.append") [acc, x]) (fun _ s₅ => ∃ m, m < n ∧ I m s₅) (notedBy (model prog w) A env fun e s' => R (.error e) s') s₄) (notedBy (model prog w) A env fun e s' => R (.error e) s') s₃
            else ∃ m, m < n ∧ I m s₃) (notedBy (model prog w) A env fun e s' => R (.error e) s') s₂) (notedBy (model prog w) A env fun e s' => R (.error e) s') s₀) (notedBy (model prog w) A env fun e s' => R (.error e) s') s₁)
        (notedBy (model prog w) A env fun e s' => R (.error e) s') s)
    (n : Nat) (h : I n s) :
    codeAny (model prog w) A (.compLoop (.ListComp elt [⟨target, iter, ifs, 0⟩] scope pos) 0 it acc env) R s := by
  refine codeAny_loop rfl I (fun n s hI => ?_) n h
  show wpAny _ A ((compTurn (.ListComp elt [⟨target, iter, ifs, 0⟩] scope pos) 0 it acc env).onRaise (fun x => do noteFrame x env; theTreesLotGoes x)) _ _ s
  refine wpAny_noted ?_
  rw [compTurn_list]
  refine wpAny_bind (wpAny_standAt (wpAny_bind (wpAny_mono (turn n s hI) (fun r s₁ h₁ => ?_) fun _ _ h' => h')))
  cases r with
  | none => exact wpAny_pure h₁
  | some v =>
    refine wpAny_bind (wpAny_mono h₁ (fun _ s₀ h₀ => ?_) fun _ _ h' => h')
    refine wpAny_bind (wpAny_mono h₀ (fun _ s₂ h₂ => wpAny_bind (wpAny_mono h₂ (fun ok s₃ h₃ => ?_) fun _ _ h' => h')) fun _ _ h' => h')
    cases ok with
    | false => exact wpAny_pure ⟨rfl, h₃⟩
    | true =>
      exact wpAny_bind (wpAny_bind (wpAny_mono h₃ (fun x s₄ h₄ => wpAny_bind (wpAny_mono h₄ (fun _ s₅ h₅ => wpAny_pure (wpAny_pure ⟨rfl, h₅⟩)) fun _ _ h' => h')) fun _ _ h' => h'))
end

/-! ### its scope -/
def clOf (env : Env) : List (Str × NameKind) → List (Str × Addr) → List (Str × Addr)
  | [], acc => acc
  | (n, k) :: r, acc => if k == .free then clOf env r ((n, (env.cells.lookup n).getD 0) :: acc) else clOf env r acc
theorem clOf_sub {env : Env} {x : Str} {c : Addr} : ∀ (names : List (Str × NameKind)) (acc : List (Str × Addr)), (∀ y ∈ names, y.2 = .free → ∃ c, env.cells.lookup y.1 = some c) → (∀ x c, acc.lookup x = some c → env.cells.lookup x = some c) →
    (clOf env names acc).lookup x = some c → env.cells.lookup x = some c
  | [], acc, _, ha, h => ha x c h
  | (n, k) :: r, acc, hf, ha, h => by
    unfold clOf at h
    by_cases hk : (k == NameKind.free) = true
    · rw [if_pos hk] at h
      refine clOf_sub r _ (fun y hy => hf y (List.mem_cons_of_mem _ hy)) (fun y d hd => ?_) h
      obtain ⟨c', e⟩ := hf (n, k) List.mem_cons_self (by simpa using hk)
      rw [List.lookup_cons] at hd
      cases hyn : y == n with
      | true =>
        rw [hyn] at hd
        have hyn' : y = n := by simpa using hyn
        rw [hyn', e]
        rw [e] at hd
        exact hd
      | false =>
        rw [hyn] at hd
        exact ha y d hd
    · rw [if_neg hk] at h
      exact clOf_sub r acc (fun y hy => hf y (List.mem_cons_of_mem _ hy)) ha h
theorem clOf_keeps {env : Env} {x : Str} : ∀ (names : List (Str × NameKind)) (acc : List (Str × Addr)), (acc.lookup x).isSome = true → ((clOf env names acc).lookup x).isSome = true
  | [], _, h => h
  | (n, k) :: r, acc, h => by
    unfold clOf
    split
    · refine clOf_keeps r _ ?_
      rw [List.lookup_cons]
      cases x == n with
      | true => rfl
      | false => exact h
    · exact clOf_keeps r acc h
theorem clOf_has {env : Env} {x : Str} : ∀ (names : List (Str × NameKind)) (acc : List (Str × Addr)), names.lookup x = some .free → ((clOf env names acc).lookup x).isSome = true
  | [], _, h => by simp at h
  | (n, k) :: r, acc, h => by
    rw [List.lookup_cons] at h
    cases hx : x == n with
    | true =>
      rw [hx] at h
      have hk : k = .free := by simpa using h
      subst hk
      show (List.lookup x (clOf env r ((n, (env.cells.lookup n).getD 0) :: acc))).isSome = true
      refine clOf_keeps r _ ?_
      rw [List.lookup_cons, hx]
      rfl
    | false =>
      rw [hx] at h
      unfold clOf
      split
      · exact clOf_has r _ h
      · exact clOf_has r _ h
theorem clOf_cons {env : Env} {n : Str} {k : NameKind} {r : List (Str × NameKind)} {acc : List (Str × Addr)} : clOf env ((n, k) :: r) acc = if (k == NameKind.free) = true then clOf env r ((n, (env.cells.lookup n).getD 0) :: acc) else clOf env r acc := rfl
theorem clos_loop {env : Env} : ∀ (names : List (Str × NameKind)) (acc : List (Str × Addr)), (∀ y ∈ names, y.2 = .free → ∃ c, env.cells.lookup y.1 = some c) →
    (forIn names acc fun (x : Str × NameKind) (r : List (Str × Addr)) => if (x.2 == NameKind.free) = true then do let y ← cellOf env x.1; pure (ForInStep.yield ((x.1, y) :: r)) else pure (ForInStep.yield r) : Sem (List (Str × Addr))) = pure (clOf env names acc)
  | [], acc, _ => by simp [clOf]
  | (n, k) :: r, acc, hf => by
    rw [List.forIn_cons]
    have ih := fun a => clos_loop (env := env) r a fun y hy => hf y (List.mem_cons_of_mem _ hy)
    by_cases hk : (k == NameKind.free) = true
    · obtain ⟨c', e⟩ := hf (n, k) List.mem_cons_self (by simpa using hk)
      have ec : cellOf env n = pure c' := by unfold cellOf; rw [show env.cells.lookup n = some c' from e]
      simp only [hk, if_true, ec, pure_bind]
      rw [ih, clOf_cons, if_pos hk, show env.cells.lookup n = some c' from e]
      rfl
    · have hk' : (k == NameKind.free) = false := Bool.eq_false_iff.mpr hk
      simp only [hk', Bool.false_eq_true, if_false, pure_bind]
      rw [ih, clOf_cons, if_neg hk]
theorem clos_eq {env : Env} {scope : Scope} (hf : ∀ y ∈ scope.names, y.2 = .free → ∃ c, env.cells.lookup y.1 = some c) : closureFor scope env = pure (clOf env scope.names []) := by
  have h := clos_loop (env := env) scope.names [] hf
  unfold closureFor
  show (do let cs ← forIn scope.names [] _; pure cs) = _
  first
    | (rw [h]; rfl)
    | (simp only [h]; rfl)
    | (refine Eq.trans ?_ h; simp)
theorem lookup_relabel_free {env : Env} : ∀ {names : List (Str × NameKind)} {x : Str}, names.lookup x = some .free →
    (names.map fun (n, k) => if (k == NameKind.free && env.scope.kind == .function && env.kindOf n == some .cell) then (n, NameKind.cell) else (n, k)).lookup x = some .cell ∨
    (names.map fun (n, k) => if (k == NameKind.free && env.scope.kind == .function && env.kindOf n == some .cell) then (n, NameKind.cell) else (n, k)).lookup x = some .free
  | [], _, h => by simp at h
  | (n, k) :: r, x, h => by
    have ih := @lookup_relabel_free env r x
    simp only [List.map_cons]
    cases hx : x == n with
    | true =>
      simp only [List.lookup_cons, hx] at h
      have hk : k = .free := by simpa using h
      subst hk
      by_cases hc : (NameKind.free == NameKind.free && env.scope.kind == .function && env.kindOf n == some .cell) = true
      · left; rw [if_pos hc]; simp [List.lookup_cons, hx]
      · right; rw [if_neg hc]; simp [List.lookup_cons, hx]
    | false =>
      simp only [List.lookup_cons, hx] at h
      by_cases hc : (k == NameKind.free && env.scope.kind == .function && env.kindOf n == some .cell) = true
      · rw [if_pos hc]; simp only [List.lookup_cons, hx]; exact ih h
      · rw [if_neg hc]; simp only [List.lookup_cons, hx]; exact ih h
theorem lookup_relabel_back {env : Env} : ∀ {names : List (Str × NameKind)} {x : Str}, (∀ y ∈ names, y.2 ≠ .cell) →
    ((names.map fun (n, k) => if (k == NameKind.free && env.scope.kind == .function && env.kindOf n == some .cell) then (n, NameKind.cell) else (n, k)).lookup x = some .cell ∨
    (names.map fun (n, k) => if (k == NameKind.free && env.scope.kind == .function && env.kindOf n == some .cell) then (n, NameKind.cell) else (n, k)).lookup x = some .free) → names.lookup x = some .free
  | [], _, _, h => by simp at h
  | (n, k) :: r, x, hn, h => by
    have ih := @lookup_relabel_back env r x fun y hy => hn y (List.mem_cons_of_mem _ hy)
    have hk0 : k ≠ .cell := hn (n, k) List.mem_cons_self
    simp only [List.map_cons] at h
    cases hx : x == n with
    | true =>
      by_cases hc : (k == NameKind.free && env.scope.kind == .function && env.kindOf n == some .cell) = true
      · have : k = .free := by
          rw [Bool.and_eq_true, Bool.and_eq_true] at hc
          simpa using hc.1.1
        simp [List.lookup_cons, hx, this]
      · rw [if_neg hc] at h
        simp only [List.lookup_cons, hx] at h ⊢
        rcases h with h | h
        · exact absurd (Option.some.inj h) hk0
        · exact h
    | false =>
      by_cases hc : (k == NameKind.free && env.scope.kind == .function && env.kindOf n == some .cell) = true
      · rw [if_pos hc] at h; simp only [List.lookup_cons, hx] at h ⊢; exact ih h
      · rw [if_neg hc] at h; simp only [List.lookup_cons, hx] at h ⊢; exact ih h

/-- the names of a comprehension: nOwn of its own, then what it takes from the def around it (whose names are NF): ix says where those stand there -/
structure CScope (NF : List Str) (scF scope : Scope) (nOwn : Nat) (NC : List Str) (ix : List Nat) : Prop where
  kind : scope.kind = .function
  nocell : ∀ y ∈ scope.names, y.2 ≠ .cell
  names : ∀ y ∈ scope.names, y.2 = .local → scope.names.lookup y.1 = some .local
  free : ∀ y ∈ scope.names, y.2 = .free → scF.names.lookup y.1 = some .cell ∨ scF.names.lookup y.1 = some .free
  caps : ∀ p ∈ (NC.drop nOwn).zip ix, NF[p.2]? = some p.1 ∧ scope.names.lookup p.1 = some .free ∧ (scF.names.lookup p.1 = some .cell ∨ scF.names.lookup p.1 = some .free)
  len : NC.length = nOwn + ix.length

/-- the context of its block -/
def cxC (X : Cx) (NC : List Str) (scope : Scope) (cl : List (Str × Addr)) (s : Shared) (H : Hp) (ex : List Addr) : Cx :=
  { X with N := NC, s₀ := s, H₀ := H, env := compEnvC scope cl s.heap.objs.size X.env, outer := X.stack, ex := ex, fn := fun _ => false, pn := [], xe := fun _ _ => False }
/-- the values at the start of each turn -/
def cst (nOwn : Nat) (ix : List Nat) (σ : St) : St := List.replicate nOwn none ++ ix.map fun i => (σ[i]?).join
theorem cst_length (nOwn : Nat) (ix : List Nat) (σ : St) : (cst nOwn ix σ).length = nOwn + ix.length := by
  unfold cst; rw [List.length_append, List.length_replicate, List.length_map]
theorem cst_get {nOwn : Nat} {ix : List Nat} {σ : St} {i : Nat} {v : V} (h : (cst nOwn ix σ)[i]? = some (some v)) : nOwn ≤ i ∧ ∃ k, ix[i - nOwn]? = some k ∧ σ[k]? = some (some v) := by
  unfold cst at h
  by_cases hi : i < nOwn
  · rw [List.getElem?_append_left (by simpa using hi), List.getElem?_replicate] at h
    split at h <;> cases h
  · have hle : nOwn ≤ i := Nat.le_of_not_lt hi
    rw [List.getElem?_append_right (by simpa using hle), List.length_replicate, List.getElem?_map] at h
    cases e : ix[i - nOwn]? with
    | none => rw [e] at h; cases h
    | some k =>
      rw [e] at h
      have h' : (σ[k]?).join = some v := by simpa using h
      refine (c_AEA hle k rfl ?_)
      cases q : σ[k]? with
      | none => rw [q] at h'; cases h'
      | some o => rw [q] at h'; simpa using h'

def tCompK (nOwn : Nat) (ix : List Nat) (wi : TI) (g : TG) (tt : TT) (te : TE) (fin : List V → Hp → Prop) : St → Hp → Prop := fun σ H => wi σ H fun J H1 =>
  ∃ W : Nat → Nat → List V → Hp → Prop, (∃ m, W 0 m [] H1) ∧ ∀ i m ys H2, W i m ys H2 → ys.length ≤ sizeLine ∧
    ((J.stop i H2 ∧ fin ys H2) ∨ (J.go i H2 ∧ ∃ Nx : List V → Hp → Prop, (∀ ys' H', Nx ys' H' → ∃ m', m' < m ∧ W (i + 1) m' ys' H') ∧
      ∀ x H', J.yld i H2 x H' → g x (cst nOwn ix σ) H' fun σ2 H3 => (σ2.drop nOwn = (cst nOwn ix σ).drop nOwn ∧ σ2.length = nOwn + ix.length) ∧
        tt σ2 H3 fun b H4 => if b = true then te σ2 H4 fun v H5 => Nx (ys ++ [v]) H5 else Nx ys H4))
def tComp (nOwn : Nat) (ix : List Nat) (wi : TI) (g : TG) (tt : TT) (te : TE) : TE := fun σ H Q => tCompK nOwn ix wi g tt te (fun ys H2 => ∀ p, H2 p = none → Q (.ref p) (upd H2 p (.lst ys))) σ H
def sComp (i : Nat) (nOwn : Nat) (ix : List Nat) (wi : TI) (g : TG) (tt : TT) (te : TE) : TS := fun D σ H => tCompK nOwn ix wi g tt te (fun ys H2 => ∀ p, H2 p = none → D.nx (σ.set i (some (.ref p))) (upd H2 p (.lst ys))) σ H

section
variable {X : Cx} {NF NC : List Str} {scF scope : Scope} {nOwn : Nat} {ix : List Nat} {tg elt iter : Expr} {ifs : List Expr} {wi : TI} {g : TG} {tt : TT} {te : TE} {pos : Pos}

/-- the block: E is what is wanted of an exception of the two allocations (there is none) -/
theorem comp_block {pins : List (Addr × Obj)} {σ : St} {H : Hp} {s₂ : Shared} {it : Addr} {fp : List Addr} {tn : Nat → Heap → Prop} {J : It} {E : Value → Shared → Prop} {RR : Value → Addr → Result → Shared → Prop} {fin : List V → Hp → Prop}
    (hc : X.calm = true) (hsc : X.env.scope = scF) (hN : X.N = NF) (CS : CScope NF scF scope nOwn NC ix) (I : Inv X pins σ H s₂) (T : Turn X.prog X.w X.K tg J fp it tn) (st0 : tn 0 s₂.heap) (fok : ∀ b ∈ fp, FpOk X pins H b)
    (hg : ∀ cl s H ex, PG (cxC X NC scope cl s H ex) tg g) (hf : ∀ cl s H ex, PF (cxC X NC scope cl s H ex) ifs tt) (he : ∀ cl s H ex, PE (cxC X NC scope cl s H ex) elt te)
    (W : Nat → Nat → List V → Hp → Prop) (w0 : ∃ m, W 0 m [] H) (turn : ∀ i m ys H2, W i m ys H2 → ys.length ≤ sizeLine ∧
      ((J.stop i H2 ∧ fin ys H2) ∨ (J.go i H2 ∧ ∃ Nx : List V → Hp → Prop, (∀ ys' H', Nx ys' H' → ∃ m', m' < m ∧ W (i + 1) m' ys' H') ∧
        ∀ x H', J.yld i H2 x H' → g x (cst nOwn ix σ) H' fun σ2 H3 => (σ2.drop nOwn = (cst nOwn ix σ).drop nOwn ∧ σ2.length = nOwn + ix.length) ∧
          tt σ2 H3 fun b H4 => if b = true then te σ2 H4 fun v H5 => Nx (ys ++ [v]) H5 else Nx ys H4)))
    (hRR : ∀ (C D : Addr) (oC : Obj) (ys : List V) (H' : Hp) (s' : Shared), H' D = none → fin ys H' → (∃ es ep, oC.data = .dict es ep ∧ StrKeys es) → Inv X (pins ++ [(C, oC)]) σ (upd H' D (.lst ys)) s' →
      FpOk X pins (upd H' D (.lst ys)) C → RR (.ref D) C (.ok .next) s') :
    wpAny (model X.prog X.w) X.A (newList []) (fun acc s₃ => wpAny (model X.prog X.w) X.A (newFunctionEnv scope X.env.globals (clOf X.env scope.names []) [] X.env.qual none .none (some X.env)) (fun cenv s₄ =>
      codeAny (model X.prog X.w) X.A (.compStart (.ListComp elt [⟨tg, iter, ifs, 0⟩] scope pos) 0 (.ref it) acc { cenv with scope := relabel scope X.env }) (RR acc cenv.locals) s₄) E s₃) E s₂ := by
  have hfree : ∀ y ∈ scope.names, y.2 = .free → ∃ c, X.env.cells.lookup y.1 = some c := fun y hy e => I.ok.has y.1 (by
    have := CS.free y hy e
    rw [← hsc] at this
    exact this)
  have clsub : ∀ x c, (clOf X.env scope.names []).lookup x = some c → X.env.cells.lookup x = some c := fun x c h => clOf_sub scope.names [] hfree (fun x c h => by simp at h) h
  refine wpAny_newObj_type (wpAny_newFunctionEnv CS.nocell (by intro y hy; simp at hy) (fun h₁ hns₁ hsb₁ => ?_) CS.kind)
  dsimp only at hns₁ hsb₁ ⊢
  -- D: the list, C: the names
  have hD : ∀ b o, s₂.heap.get? b = some o → b < s₂.heap.objs.size := fun b o e => Heap.lt_size e
  generalize hH3 : s₂.heap.push { cls := .type "list", dict := none, data := .seq ([] : List Value).toArray } = h3 at hns₁ hsb₁ ⊢
  have hCs : h3.objs.size = s₂.heap.objs.size + 1 := by rw [← hH3, Heap.size_push]
  have hDC : s₂.heap.objs.size ≠ h3.objs.size := by rw [hCs]; exact Nat.ne_of_lt (Nat.lt_succ_self _)
  have k23 : ∀ b o, s₂.heap.get? b = some o → h3.get? b = some o := fun b o e => by rw [← hH3]; exact Heap.get?_push_of_some _ e
  have k31 : ∀ b o, h3.get? b = some o → h₁.get? b = some o := fun b o e => (hsb₁.2 b (Nat.ne_of_lt (Heap.lt_size e))).trans (Heap.get?_push_of_some _ e)
  have I3 : Inv X pins σ H { s₂ with heap := h3 } := I.kept (t' := s₂.toks) k23
  have hDg : h3.get? s₂.heap.objs.size = some { cls := .type "list", data := .seq ([] : List Value).toArray } := by rw [← hH3]; exact Heap.get?_push_size _ rfl
  have hDn : H s₂.heap.objs.size = none := I.fresh
  have hfl : ∀ b ∈ fp, b < s₂.heap.objs.size := fun b hb => by
    obtain ⟨o, e, _⟩ := T.obj 0 _ st0 b hb
    exact Heap.lt_size e
  have hDf : s₂.heap.objs.size ∉ fp := fun z => Nat.lt_irrefl _ (hfl _ z)
  have cellLt : ∀ x c, (clOf X.env scope.names []).lookup x = some c → c < s₂.heap.objs.size := fun x c h => by
    obtain ⟨v, q⟩ := I.cell x c (clsub x c h)
    exact q.lt
  have ndC : ∀ b ∈ frs X.stack, b < s₂.heap.objs.size := fun b hb => by
    rcases List.mem_cons.mp (I.stkSub b hb) with e | hb
    · rw [e]; exact I.lt
    · obtain ⟨_, o, ho, _⟩ := I.funs.mem hb
      exact Heap.lt_size ho
  have notfs : ∀ b ∈ fp, b ∉ frs X.stack := fun b hb z => by
    rcases List.mem_cons.mp (I.stkSub b z) with e | z
    · exact (fok b hb).2.1 e
    · exact (fok b hb).2.2.1 z
  -- the block's context
  have okY : (cxC X NC scope (clOf X.env scope.names []) { s₂ with heap := h3 } H (s₂.heap.objs.size :: fp)).Ok := by
    refine ⟨I.ok.mod, CS.kind, I.ok.glob, I.ok.blt, Nat.le_refl _, fun x y c e1 e2 => I.ok.inj x y c (clsub x c e1) (clsub y c e2), fun x hx => ?_, fun x c hx => (by cases (show false = true from hx)), I.ok.hd, I.ok.frames, .inl rfl, fun b hb => ⟨?_, fun x c e => ?_⟩, fun b o e => ⟨k23 _ _ (I.bs b o e).1, (I.bs b o e).2⟩, Nat.le_trans (Nat.le_trans I.ok.bsz I.sz) (show s₂.heap.objs.size ≤ h3.objs.size by rw [hCs]; exact Nat.le_succ _), fun b o e hb => ?_, fun b hb => ?_, I3.stack, I3.stkFree⟩
    · have hx' : scope.names.lookup x = some .free := lookup_relabel_back CS.nocell hx
      exact Option.isSome_iff_exists.mp (clOf_has scope.names [] hx')
    · show b ≠ h3.objs.size
      rcases List.mem_cons.mp hb with e | hb
      · rw [e]; exact hDC
      · rw [hCs]; exact Nat.ne_of_lt (Nat.lt_succ_of_lt (hfl b hb))
    · rcases List.mem_cons.mp hb with e' | hb
      · rw [e']; exact Nat.ne_of_lt (cellLt x c e)
      · exact (fok b hb).2.2.2.2.1 x c (clsub x c e)
    · rcases List.mem_cons.mp hb with e' | hb
      · exact absurd (hD _ _ (I.bs b o e).1) (by rw [e']; exact Nat.lt_irrefl _)
      · rcases (fok b hb).2.2.2.1 with z | z
        · exact I.ok.noex b o e z
        · exact absurd (Nat.lt_of_lt_of_le (Heap.lt_size (I.ok.bs b o e).1) z) (Nat.lt_irrefl _)
    · rcases List.mem_cons.mp hb with e' | hb
      · intro z
        rw [e'] at z
        exact Nat.lt_irrefl _ (ndC _ z)
      · exact notfs b hb
  have hpl0 : h₁.PlainList s₂.heap.objs.size #[] := ⟨_, k31 _ _ hDg⟩
  have IY : Inv (cxC X NC scope (clOf X.env scope.names []) { s₂ with heap := h3 } H (s₂.heap.objs.size :: fp)) [] (cst nOwn ix σ) H { s₂ with heap := h₁, toks := s₂.toks + ([] : List (Str × Value)).length } := by
    refine ⟨okY, rfl, I3.bare, Un.kept k31, (c_EA _ hns₁ (fun i x v e1 e2 e3 => ?_)), fun x c e => ?_, I3.hok.fresh (Nat.le_refl _), fun x c e => I.freeC x c (clsub x c e), fun p hp => absurd (show p ∈ ([] : List (Addr × Obj)) from hp) (by simp), I3.hok.kept k31, ?_⟩
    · obtain ⟨hle, k, hk, hσ⟩ := cst_get e2
      have hz : (x, k) ∈ (NC.drop nOwn).zip ix := by
        refine List.mem_of_getElem? (i := i - nOwn) ?_
        rw [List.getElem?_zip_eq_some]
        refine ⟨?_, hk⟩
        rw [List.getElem?_drop, Nat.add_sub_cancel' hle]
        exact e1
      obtain ⟨hNk, hfr, hkd⟩ := CS.caps _ hz
      obtain ⟨m, _, hl⟩ := I.loc
      rw [← hsc] at hkd
      obtain ⟨u, ru, lk⟩ := hl k x v (by rw [hN]; exact hNk) hσ (.inr hkd)
      refine (c_EA u ru ?_)
      rcases lk with ⟨z, _⟩ | ⟨z, c, ec, hcell⟩
      · have z' : X.env.scope.names.lookup x = some .local := z
        rcases hkd with q | q
        · rw [z'] at q; cases q
        · rw [z'] at q; cases q
      · obtain ⟨c', ec'⟩ := Option.isSome_iff_exists.mp (clOf_has (env := X.env) scope.names [] hfr)
        have := clsub x c' ec'
        rw [ec] at this
        cases this
        obtain ⟨oc, hoc, hd⟩ := hcell
        exact .inr (c_AEA (lookup_relabel_free hfr) c ec' (c_EA oc (k31 _ _ (k23 _ _ hoc)) hd))
    · obtain ⟨v, oc, hoc, hd⟩ := I.cell x c (clsub x c e)
      exact ⟨v, (c_EA oc (k31 _ _ (k23 _ _ hoc)) hd)⟩
    · rw [cst_length]; exact CS.len.symm
  -- the loop
  have fokY : ∀ {H' : Hp} {pins' : List (Addr × Obj)}, (∀ b ∈ fp, H' b = none) → (∀ p ∈ pins', p.1 = s₂.heap.objs.size) → ∀ b ∈ fp, FpOk (cxC X NC scope (clOf X.env scope.names []) { s₂ with heap := h3 } H (s₂.heap.objs.size :: fp)) pins' H' b := fun {H' pins'} hn hp b hb => by
    refine (c_AAAAA (hn b hb) ?_ (notfs b hb) (.inl (List.mem_cons_of_mem _ hb)) (fun x c e => (fok b hb).2.2.2.2.1 x c (clsub x c e)) (fun p hp' z => ?_))
    · show b ≠ h3.objs.size
      rw [hCs]; exact Nat.ne_of_lt (Nat.lt_succ_of_lt (hfl b hb))
    · have e := hp p (by simpa [cxC] using hp')
      rw [e] at z
      exact hDf (z ▸ hb)
  have loop : ∀ s₅ : Shared, s₅ = { s₂ with heap := h₁, toks := s₂.toks + ([] : List (Str × Value)).length } →
      codeAny (model X.prog X.w) X.A (.compLoop (.ListComp elt [⟨tg, iter, ifs, 0⟩] scope pos) 0 (.ref it) (.ref s₂.heap.objs.size) (compEnvC scope (clOf X.env scope.names []) h3.objs.size X.env)) (RR (.ref s₂.heap.objs.size) h3.objs.size) s₅ := by
    rintro s₅ rfl
    obtain ⟨m0, w0⟩ := w0
    refine comp_loop (fun n s' => ∃ i ys its H', Inv (cxC X NC scope (clOf X.env scope.names []) { s₂ with heap := h3 } H (s₂.heap.objs.size :: fp)) [] (cst nOwn ix σ) H' s' ∧ tn i s'.heap ∧ (∀ b ∈ fp, H' b = none) ∧ H' s₂.heap.objs.size = none ∧
      s'.heap.PlainList s₂.heap.objs.size its ∧ Vals ys its.toList ∧ W i n ys H') ?_ m0 (c_EEEEAAAAAA 0 ([]) (#[]) H IY (T.keep 0 _ _ st0 (fun b hb o e => k31 _ _ (k23 _ _ e))) (fun b hb => (fok b hb).1) hDn hpl0 (.nil) w0)
    rintro n s6 ⟨i, ys, its, H6, I6, st6, fr6, nD6, ⟨nn, pl6⟩, rv6, w6⟩
    have DneC : s₂.heap.objs.size ≠ (cxC X NC scope (clOf X.env scope.names []) { s₂ with heap := h3 } H (s₂.heap.objs.size :: fp)).env.locals := hDC
    have hsize : its.size = ys.length := by rw [rv6.length]; simp
    have pinD : ∀ {s' : Shared} {H' : Hp} {σ' : St} {o : Obj} {its' : Array Value}, Inv (cxC X NC scope (clOf X.env scope.names []) { s₂ with heap := h3 } H (s₂.heap.objs.size :: fp)) [] σ' H' s' → H' s₂.heap.objs.size = none → s'.heap.get? s₂.heap.objs.size = some o → o.data = .seq its' nn → Inv (cxC X NC scope (clOf X.env scope.names []) { s₂ with heap := h3 } H (s₂.heap.objs.size :: fp)) [(s₂.heap.objs.size, o)] σ' H' s' := by
      intro s' H' σ' o its' J hn hg' hdt
      refine J.pins_of fun p hp => ?_
      have e : p = (s₂.heap.objs.size, o) := by simpa using hp
      subst e
      refine (c_AAAA hg' hn DneC (fun z => Nat.lt_irrefl _ (ndC _ z)) (fun v z => ?_))
      rw [hdt] at z
      cases z
    have J6 := pinD I6 nD6 pl6 rfl
    obtain ⟨hlen, hw⟩ := turn i n ys H6 w6
    rcases hw with ⟨stop, hfin⟩ | ⟨go, Nx, hNx, step⟩
    · refine wpAny_mono (T.done (cxC X NC scope (clOf X.env scope.names []) { s₂ with heap := h3 } H (s₂.heap.objs.size :: fp)) rfl rfl rfl hc i _ s6 _ H6 _ J6 (fokY fr6 (fun p hp => by rw [List.mem_singleton.mp hp])) st6 stop) (fun r s7 hr => ?_) fun _ _ e => e
      obtain ⟨rfl, J7⟩ := hr
      -- the end: back to the def's context
      have g7 : s7.heap.get? s₂.heap.objs.size = some { cls := .type "list", data := .seq its nn } := (J7.pin (s₂.heap.objs.size, _) (List.mem_append_right _ (by simp))).1
      obtain ⟨mC, ⟨oC, es, ep, hoC, hdC, hkC, _⟩, _⟩ := id J7.loc
      have hoC' : s7.heap.get? h3.objs.size = some oC := hoC
      have nC7 : H6 h3.objs.size = none := J7.free
      have ub := J7.base
      have exn : ∀ b o, s₂.heap.get? b = some o → b ∉ fp → b ∉ s₂.heap.objs.size :: fp := fun b o e hb z => by
        rcases List.mem_cons.mp z with e' | z
        · exact absurd (Heap.lt_size e) (by rw [e']; exact Nat.lt_irrefl _)
        · exact hb z
      have neD : ∀ b o, s₂.heap.get? b = some o → b ≠ s₂.heap.objs.size := fun b o e => Nat.ne_of_lt (Heap.lt_size e)
      have hneD : ∀ b u, H6 b = some u → b ≠ s₂.heap.objs.size := fun b u e z => by rw [z, nD6] at e; cases e
      have U : Un (frs X.stack) fp H (upd H6 s₂.heap.objs.size (.lst ys)) s₂.heap s7.heap := by
        refine ⟨fun b o e hn hb hx => ub.keep b o (k23 _ _ e) hn hb (exn b o e hx), fun b o e hn hb hx => ub.slot b o (k23 _ _ e) hn hb (exn b o e hx), fun b o e hn hx => ?_, fun b o e hx => ub.there b o (k23 _ _ e) (exn b o e hx), fun b xs e => ?_, fun b o u e => ?_, fun b ps e => ?_⟩
        · rw [upd_ne (neD b o e)]; exact ub.free b o (k23 _ _ e) hn (exn b o e hx)
        · have q := ub.tups b xs e
          rw [upd_ne (hneD _ _ q)]; exact q
        · have q := ub.frzs b o u e
          rw [upd_ne (hneD _ _ q)]; exact q
        · obtain ⟨more, q⟩ := ub.tbls b ps e
          exact ⟨more, by rw [upd_ne (hneD _ _ q)]; exact q⟩
      have hok7 : HOk X.prog X.w (upd H6 s₂.heap.objs.size (.lst ys)) s7.heap := fun b u e => by
        by_cases hb : b = s₂.heap.objs.size
        · subst hb
          rw [upd_same] at e
          cases e
          exact (c_AEEA hlen its.toList nn rv6 (by rw [Array.toArray_toList]; exact g7))
        · rw [upd_ne hb] at e
          refine ObjOk.stay (J7.hok b u e) (fun _ _ _ q => q) (fun c q => ?_) fun c xs q => ?_
          · rw [upd_ne (hneD _ _ q)]; exact q
          · rw [upd_ne (hneD _ _ q)]; exact q
      have os7 : s7.os = s₂.os := J7.os
      have IX : Inv X pins σ (upd H6 s₂.heap.objs.size (.lst ys)) s7 := I.call' os7 U hok7 J7.bare fun b hb => (c_AAA ((fok b hb).2.2.2.1) ((fok b hb).2.1) ((fok b hb).2.2.2.2.1) ((fok b hb).2.2.2.2.2))
      have nC' : (upd H6 s₂.heap.objs.size (.lst ys)) h3.objs.size = none := by rw [upd_ne (Ne.symm hDC)]; exact nC7
      have hle : s₂.heap.objs.size ≤ h3.objs.size := by rw [hCs]; exact Nat.le_succ _
      have fC : FpOk X pins (upd H6 s₂.heap.objs.size (.lst ys)) h3.objs.size := I.fpOk hle nC'
      refine hRR h3.objs.size s₂.heap.objs.size oC ys H6 s7 nD6 hfin (c_EEA es ep hdC hkC) (IX.pins_of fun p hp => ?_) fC
      rcases List.mem_append.mp hp with z | z
      · exact IX.pin p (List.mem_append_right _ z)
      · have e : p = (h3.objs.size, oC) := by simpa using z
        subst e
        exact (c_AAAA hoC' nC' fC.2.1 fC.2.2.1 (fun v z => by rw [hdC] at z; cases z))
    · refine wpAny_mono (T.item (cxC X NC scope (clOf X.env scope.names []) { s₂ with heap := h3 } H (s₂.heap.objs.size :: fp)) rfl rfl rfl hc i _ s6 _ H6 _ J6 (fokY fr6 (fun p hp => by rw [List.mem_singleton.mp hp])) st6 go) (fun r s7 hr => ?_) fun _ _ e => e
      obtain ⟨u, rfl, h7⟩ := hr
      refine wpAny_mono h7 (fun _ s8 ⟨x, H8, I8, r8, y8, st8, fr8⟩ => ?_) fun _ _ e => e
      have I8' := I8.pinned (fokY fr8 (fun p hp => by rw [List.mem_singleton.mp hp])) (T.obj _ _ st8)
      refine wpAny_mono (hg _ _ _ _ _ s8 _ H8 x u _ I8' r8 (step x H8 y8)) (fun _ s9 ⟨σ9, H9, I9, ⟨hσ, hl9⟩, q9⟩ => ?_) fun _ _ e => e.elim
      have wk : ∀ {s' : Shared} {H' : Hp}, Inv (cxC X NC scope (clOf X.env scope.names []) { s₂ with heap := h3 } H (s₂.heap.objs.size :: fp)) [] σ9 H' s' → Inv (cxC X NC scope (clOf X.env scope.names []) { s₂ with heap := h3 } H (s₂.heap.objs.size :: fp)) [] (cst nOwn ix σ) H' s' := fun K => by
        refine K.weak (by rw [cst_length, hl9]) fun j v e => ?_
        obtain ⟨hle, _⟩ := cst_get e
        have : (σ9.drop nOwn)[j - nOwn]? = ((cst nOwn ix σ).drop nOwn)[j - nOwn]? := by rw [hσ]
        rw [List.getElem?_drop, List.getElem?_drop, Nat.add_sub_cancel' hle] at this
        rw [this]; exact e
      refine wpAny_mono (hf _ _ _ _ _ s9 σ9 H9 _ I9 q9) (fun ok s10 ⟨H10, I10, q10⟩ => ?_) fun _ _ e => e.elim
      have back : ∀ {s' : Shared} {H' : Hp}, Inv (cxC X NC scope (clOf X.env scope.names []) { s₂ with heap := h3 } H (s₂.heap.objs.size :: fp)) ([(s₂.heap.objs.size, ({ cls := .type "list", data := .seq its nn } : Obj))] ++ pinsAt fp s8.heap) σ9 H' s' →
          tn (i + 1) s'.heap ∧ (∀ b ∈ fp, H' b = none) ∧ H' s₂.heap.objs.size = none ∧ s'.heap.get? s₂.heap.objs.size = some { cls := .type "list", data := .seq its nn } ∧ Inv (cxC X NC scope (clOf X.env scope.names []) { s₂ with heap := h3 } H (s₂.heap.objs.size :: fp)) [] σ9 H' s' := fun {s' H'} K => by
        have kp : ∀ b ∈ fp, ∀ o, s8.heap.get? b = some o → s'.heap.get? b = some o ∧ H' b = none := fun b hb o e => by
          have q := K.pin (b, o) (List.mem_append_right _ (List.mem_append_right _ (mem_pinsAt hb e)))
          exact ⟨q.1, q.2.1⟩
        have qD := K.pin (s₂.heap.objs.size, ({ cls := .type "list", data := .seq its nn } : Obj)) (List.mem_append_right _ (List.mem_append_left _ (by simp)))
        refine (c_AAAA (T.keep _ _ _ st8 fun b hb o e => (kp b hb o e).1) (fun b hb => ?_) qD.2.1 qD.1 (K.pins_of fun p hp => absurd hp (by simp)))
        obtain ⟨o, e, _⟩ := T.obj _ _ st8 b hb
        exact (kp b hb o e).2
      cases ok with
      | false =>
        obtain ⟨a1, a2, a3, a4, a5⟩ := back I10
        obtain ⟨m', hm', w'⟩ := hNx ys H10 q10
        exact (c_EAEEEEAAAAAA m' hm' (i + 1) ys its H10 (wk a5) a1 a2 a3 ⟨nn, a4⟩ rv6 w')
      | true =>
        refine wpAny_mono (he _ _ _ _ _ s10 σ9 H10 _ I10 q10) (fun y s11 ⟨v, H11, I11, r11, q11⟩ => ?_) fun _ _ e => e.elim
        obtain ⟨a1, a2, a3, a4, a5⟩ := back I11
        obtain ⟨m', hm', w'⟩ := hNx (ys ++ [v]) H11 q11
        refine wpAny_list_append_plain (hsz := by rw [hsize]; exact hlen) ⟨nn, a4⟩ fun h12 pl12 sb12 => ?_
        have I12 : Inv (cxC X NC scope (clOf X.env scope.names []) { s₂ with heap := h3 } H (s₂.heap.objs.size :: fp)) [] σ9 H11 { s11 with heap := h12 } := a5.turned (t' := s11.toks) (it := s₂.heap.objs.size) (fun b o hb e => (sb12.2 b hb).trans e) a3 DneC (.inl List.mem_cons_self)
          (fun x c e => Nat.ne_of_lt (cellLt x c e)) (fun p hp => absurd (show p ∈ ([] : List (Addr × Obj)) from by simpa [cxC] using hp) (by simp))
        refine (c_EAEEEEAAAAAA m' hm' (i + 1) (ys ++ [v]) (its.push y) H11 (wk I12) (T.keep _ _ _ a1 fun b hb o e => (sb12.2 b (fun z => hDf (z ▸ hb))).trans e) a2 a3 pl12 ?_ w')
        rw [Array.toList_push]
        exact rv6.append (.cons r11 .nil)
  exact codeAny_compStart_list (loop _ rfl) (T.self _ 0 _ _ _ (T.keep 0 _ _ st0 (fun b hb o e => k31 _ _ (k23 _ _ e))) (loop _ rfl))

/-- [elt for tg in iter ..] -/
theorem pe_comp (hc : X.calm = true) (hsc : X.env.scope = scF) (hN : X.N = NF) (CS : CScope NF scF scope nOwn NC ix) (hi : PI X tg iter wi)
    (hg : ∀ cl s H ex, PG (cxC X NC scope cl s H ex) tg g) (hf : ∀ cl s H ex, PF (cxC X NC scope cl s H ex) ifs tt) (he : ∀ cl s H ex, PE (cxC X NC scope cl s H ex) elt te)
    (hs : ∀ x, foldedSetIterable iter X.env x = pure x := by intro _; rfl) : PE X (.ListComp elt [⟨tg, iter, ifs, 0⟩] scope pos) (tComp nOwn ix wi g tt te) := by
  intro pins s σ H Q I h
  have hfree : ∀ y ∈ scope.names, y.2 = .free → ∃ c, X.env.cells.lookup y.1 = some c := fun y hy e => I.ok.has y.1 (by
    have := CS.free y hy e
    rw [← hsc] at this
    exact this)
  rw [eval_ListComp]
  refine wpAny_comprehension_free (use := none) rfl hs (clos_eq hfree) CS.kind CS.names (thn (hi pins s σ H _ I h) fun xv s₁ h₁ => thn h₁ fun itv s₂ h₂ => ?_)
  obtain ⟨it, fp, tn, J, H2, rfl, I2, T, st2, f2, W, w0, turn⟩ := h₂
  refine comp_block (RR := fun acc C => compPost (model X.prog X.w) X.A X.xe none (EP X pins σ Q) acc C) hc hsc hN CS I2 T st2 f2 hg hf he W w0 turn ?_
  intro C D oC ys H' s' hD hfin hoC IC fC
  obtain ⟨es, ep, hd, hk⟩ := hoC
  have gC := (IC.pin (C, oC) (List.mem_append_right _ (List.mem_append_right _ (by simp)))).1
  refine (c_EA _ (c_EEEAAA oC es ep gC hd hk (fun _ => rfl)) (fun h'' sb => ?_))
  have I' : Inv X pins σ (upd H' D (.lst ys)) s' := IC.unpinned
  exact (c_EEAA (.ref D) _ (I'.turned (t' := s'.toks) (it := C) (fun b o hb e => (sb.2 b hb).trans e) fC.1 fC.2.1 fC.2.2.2.1 fC.2.2.2.2.1 fC.2.2.2.2.2) rfl (hfin D hD))

/-- y = [elt for tg in iter ..], on one row -/
theorem ps_comp {i : Nat} {y : Str} {py spos : Pos} (hc : X.calm = true) (hsc : X.env.scope = scF) (hN : X.N = NF) (hNd : X.N.Nodup) (hi' : X.N[i]? = some y) (hy : X.env.scope.names.lookup y = some .local) (CS : CScope NF scF scope nOwn NC ix) (hi : PI X tg iter wi)
    (hg : ∀ cl s H ex, PG (cxC X NC scope cl s H ex) tg g) (hf : ∀ cl s H ex, PF (cxC X NC scope cl s H ex) ifs tt) (he : ∀ cl s H ex, PE (cxC X NC scope cl s H ex) elt te)
    (hsw : swapsWith (.ListComp elt [⟨tg, iter, ifs, 0⟩] scope pos) (some (.Name y py)) spos.line X.env = pure true := by rfl)
    (hs : ∀ x, foldedSetIterable iter X.env x = pure x := by intro _; rfl) : PS X (.Assign [.Name y py] (.ListComp elt [⟨tg, iter, ifs, 0⟩] scope pos) spos) (sComp i nOwn ix wi g tt te) := by
  intro pins s σ H D I h
  have hfree : ∀ y ∈ scope.names, y.2 = .free → ∃ c, X.env.cells.lookup y.1 = some c := fun y hy e => I.ok.has y.1 (by
    have := CS.free y hy e
    rw [← hsc] at this
    exact this)
  rw [exec_Assign_Name_used _ _ _ _ hsw]
  refine wpAny_bind (wpAny_standAt (wpAny_bind ?_))
  show wpAny _ X.A (do let _ ← comprehension (.ListComp elt [⟨tg, iter, ifs, 0⟩] scope pos) scope X.env _ (newList []) false (eval iter X.env) (some (assign (.Name y py) X.env))) _ _ s
  refine wpAny_bind (wpAny_mono (wpAny_comprehension_free (use := some (assign (.Name y py) X.env)) (Q := fun _ s' => SP X pins D .next s') rfl hs (clos_eq hfree) CS.kind CS.names
    (thn (hi pins s σ H _ I h) fun xv s₁ h₁ => thn h₁ fun itv s₂ h₂ => ?_)) (fun _ s' hq => wpAny_pure (wpAny_pure hq)) fun _ _ e => e)
  obtain ⟨it, fp, tn, J, H2, rfl, I2, T, st2, f2, W, w0, turn⟩ := h₂
  refine comp_block (RR := fun acc C => compPost (model X.prog X.w) X.A X.xe (some (assign (.Name y py) X.env)) (fun _ s' => SP X pins D .next s') acc C) hc hsc hN CS I2 T st2 f2 hg hf he W w0 turn ?_
  intro C L oC ys H' s' hL hfin hoC IC fC
  obtain ⟨es, ep, hd, hk⟩ := hoC
  show wpAny _ X.A (assign (.Name y py) X.env (.ref L)) _ _ _
  refine wpAny_assign_Name (store_ok IC hNd hi' (.inl hy) (v := .ref L) rfl (fun s'' I'' => ?_) (.inr hy))
  have gC := (I''.pin (C, oC) (List.mem_append_right _ (List.mem_append_right _ (by simp)))).1
  refine (c_EA _ (c_EEEAAA oC es ep gC hd hk (fun _ => rfl)) (fun h'' sb => ?_))
  have I' : Inv X pins (σ.set i (some (.ref L))) (upd H' L (.lst ys)) s'' := I''.unpinned
  exact (c_EEA _ _ (I'.turned (t' := s''.toks) (it := C) (fun b o hb e => (sb.2 b hb).trans e) fC.1 fC.2.1 fC.2.2.2.1 fC.2.2.2.2.1 fC.2.2.2.2.2) (hfin L hL))
end
end L2
set_option maxHeartbeats 4000000
/-! Calls of Python's own over values; loops by a count; == of lists. -/
namespace L2
open PySem PySem.Spec PyProof.Rows

/-! ### loops by a count -/
structure Cnt (J : It) (n : Nat) (Ok : Hp → Prop) (Y : Nat → Hp → V → Hp → Prop) : Prop where
  go : ∀ i H, i < n → Ok H → J.go i H
  stop : ∀ H, Ok H → J.stop n H
  yld : ∀ i H x H', i < n → Ok H → J.yld i H x H' → Y i H x H'
theorem cnt_list {K : PySem.W.Frag} {a : Addr} {xs : List V} : Cnt (Itl K a) xs.length (fun H => SqL K H a xs) (fun i H x H' => H' = H ∧ xs[i]? = some x) :=
  ⟨fun i H hi h => (c_EEA xs (xs[i]) h (by simp [hi])), fun H h => (c_EA xs h (Nat.le_refl _)), fun i H x H' hi h y => ⟨y.1, y.2 xs h⟩⟩
theorem cnt_tup {K : PySem.W.Frag} {a : Addr} {xs : List V} : Cnt (Itt K a) xs.length (fun H => SqT K H a xs) (fun i H x H' => H' = H ∧ xs[i]? = some x) :=
  ⟨fun i H hi h => (c_EEA xs (xs[i]) h (by simp [hi])), fun H h => (c_EA xs h (Nat.le_refl _)), fun i H x H' hi h y => ⟨y.1, y.2 xs h⟩⟩
theorem cnt_range {lo : Int} {n : Nat} : Cnt (Itr lo n) n (fun _ => True) (fun i H x H' => H' = H ∧ x = .int (lo + i)) :=
  ⟨fun i H hi h => hi, fun H h => Nat.le_refl n, fun i H x H' hi h y => y⟩
theorem cnt_enum {K : PySem.W.Frag} {a : Addr} {xs : List V} : Cnt (Ite K a) xs.length (fun H => SqL K H a xs) (fun i H x H' => ∃ T y, xs[i]? = some y ∧ H T = none ∧ x = .ref T ∧ H' = upd H T (.tup [.int i, y])) :=
  ⟨fun i H hi h => (c_EEA xs (xs[i]) h (by simp [hi])), fun H h => (c_EA xs h (Nat.le_refl _)), fun i H x H' hi h y => by
    obtain ⟨T, h1, h2, h3⟩ := y
    obtain ⟨y, h4, h5⟩ := h3 xs h
    exact (c_EEAAA T y h4 h1 h2 h5)⟩
theorem for_cnt {J : It} {n : Nat} {Ok : Hp → Prop} {Y : Nat → Hp → V → Hp → Prop} (C : Cnt J n Ok Y) {g : TG} {tb : TS} {D : Ends} {σ : St} {H : Hp} (Pv : Nat → St → Hp → Prop) (h0 : Pv 0 σ H) (hl : ∀ i σ H, i ≤ n → Pv i σ H → Ok H)
    (hs : ∀ i x σ H H', i < n → Pv i σ H → Y i H x H' → g x σ H' fun σ2 H2 => tb { D with nx := Pv (i + 1), ct := Pv (i + 1), bk := D.nx } σ2 H2) (hd : ∀ σ H, Pv n σ H → D.nx σ H) :
    ∃ W : Nat → Nat → St → Hp → Prop, (∃ m, W 0 m σ H) ∧ ∀ i m σ H, W i m σ H →
      (J.stop i H ∧ D.nx σ H) ∨ (J.go i H ∧ ∃ N : St → Hp → Prop, (∀ σ' H', N σ' H' → ∃ m', m' < m ∧ W (i + 1) m' σ' H') ∧ ∀ x H', J.yld i H x H' → g x σ H' fun σ2 H2 => tb { D with nx := N, ct := N, bk := D.nx } σ2 H2) := by
  refine (c_EA (fun i m σ H => m = n - i ∧ i ≤ n ∧ Pv i σ H) (c_EAA n (by simp) (Nat.zero_le _) h0) ?_)
  rintro i m σ H ⟨rfl, hi, p⟩
  have q := hl i σ H hi p
  by_cases hlt : i < n
  · exact .inr (c_AEA (C.go i H hlt q) (Pv (i + 1)) (fun σ' H' p' => (c_EAAA (n - (i + 1)) (by omega) rfl hlt p')) (fun x H' y => hs i x σ H H' hlt p (C.yld i H x H' hlt q y)))
  · have e : i = n := by omega
    subst e
    exact .inl ⟨C.stop H q, hd σ H p⟩
theorem comp_cnt {J : It} {n : Nat} {Ok : Hp → Prop} {Y : Nat → Hp → V → Hp → Prop} (C : Cnt J n Ok Y) {nOwn : Nat} {ix : List Nat} {g : TG} {tt : TT} {te : TE} {fin : List V → Hp → Prop} {σ : St} {H : Hp} (Pv : Nat → List V → Hp → Prop) (h0 : Pv 0 [] H)
    (hl : ∀ i ys H, i ≤ n → Pv i ys H → Ok H ∧ ys.length ≤ sizeLine)
    (hs : ∀ i x ys H H', i < n → Pv i ys H → Y i H x H' → g x (cst nOwn ix σ) H' fun σ2 H3 => (σ2.drop nOwn = (cst nOwn ix σ).drop nOwn ∧ σ2.length = nOwn + ix.length) ∧ tt σ2 H3 fun b H4 => if b = true then te σ2 H4 fun v H5 => Pv (i + 1) (ys ++ [v]) H5 else Pv (i + 1) ys H4)
    (hd : ∀ ys H, Pv n ys H → fin ys H) :
    ∃ W : Nat → Nat → List V → Hp → Prop, (∃ m, W 0 m [] H) ∧ ∀ i m ys H2, W i m ys H2 → ys.length ≤ sizeLine ∧
    ((J.stop i H2 ∧ fin ys H2) ∨ (J.go i H2 ∧ ∃ Nx : List V → Hp → Prop, (∀ ys' H', Nx ys' H' → ∃ m', m' < m ∧ W (i + 1) m' ys' H') ∧
      ∀ x H', J.yld i H2 x H' → g x (cst nOwn ix σ) H' fun σ2 H3 => (σ2.drop nOwn = (cst nOwn ix σ).drop nOwn ∧ σ2.length = nOwn + ix.length) ∧
        tt σ2 H3 fun b H4 => if b = true then te σ2 H4 fun v H5 => Nx (ys ++ [v]) H5 else Nx ys H4)) := by
  refine (c_EA (fun i m ys H => m = n - i ∧ i ≤ n ∧ Pv i ys H) (c_EAA n (by simp) (Nat.zero_le _) h0) ?_)
  rintro i m ys H ⟨rfl, hi, p⟩
  have q := hl i ys H hi p
  refine ⟨q.2, ?_⟩
  by_cases hlt : i < n
  · exact .inr (c_AEA (C.go i H hlt q.1) (Pv (i + 1)) (fun σ' H' p' => (c_EAAA (n - (i + 1)) (by omega) rfl hlt p')) (fun x H' y => hs i x ys H H' hlt p (C.yld i H x H' hlt q.1 y)))
  · have e : i = n := by omega
    subst e
    exact .inl ⟨C.stop H q.1, hd ys H p⟩

/-! ### calls of Python's own -/
section
variable {X : Cx}
theorem call_isi : CallR X (.builtin "isinstance") (fun xs H Q => ∃ x t n b, xs = [x, .ty n] ∧ TyOf X.K H x t ∧ PySem.W.kitOne X.K t (.type n) = some b ∧ Q (.bl b) H) := by
  intro pins s σ H xs us Q I r h
  obtain ⟨x, t, n, b, rfl, ty, e, q⟩ := h
  obtain ⟨u, v, rfl, ru, rv⟩ := vals2 r
  cases (show v = Value.type n from rv)
  exact isinst_ok I ru ty e fun tk => (c_EEAA (.bl b) H (I.tok tk) rfl q)
theorem kit_ii {K : PySem.W.Frag} : PySem.W.kitOne K (.type "int") (.type "int") = some true := by rfl
theorem kit_ib {K : PySem.W.Frag} : PySem.W.kitOne K (.type "int") (.type "bool") = some false := by first | rfl | decide +kernel
theorem kit_tt {K : PySem.W.Frag} : PySem.W.kitOne K (.type "tuple") (.type "tuple") = some true := by rfl
theorem kit_ll {K : PySem.W.Frag} : PySem.W.kitOne K (.type "list") (.type "list") = some true := by rfl
theorem bools_get {bs : List Bool} {its : List Value} (r : Vals (bs.map V.bl) its) {i : Nat} {v : Value} (h : its[i]? = some v) : v = .bool (bs.getD i false) := by
  have hl := r.length
  have hi : i < its.length := (List.getElem?_eq_some_iff.mp h).1
  have hb : i < bs.length := by rw [List.length_map] at hl; omega
  obtain ⟨u, hu, ru⟩ := r.get (i := i) (x := V.bl bs[i]) (by rw [List.getElem?_map, List.getElem?_eq_getElem hb]; rfl)
  rw [h] at hu
  cases hu
  have e : v = Value.bool bs[i] := ru
  rw [e, List.getD_eq_getElem?_getD, List.getElem?_eq_getElem hb]
  rfl
theorem all_getD (bs : List Bool) : (List.range bs.length).all (fun i => bs.getD i false) = bs.all id := by
  rw [Bool.eq_iff_iff, List.all_eq_true, List.all_eq_true]
  constructor
  · intro h b hb
    obtain ⟨i, hi, e⟩ := List.mem_iff_getElem.mp hb
    have := h i (List.mem_range.mpr hi)
    rw [List.getD_eq_getElem?_getD, List.getElem?_eq_getElem hi] at this
    rw [← e]
    exact this
  · intro h i hi
    have hi' := List.mem_range.mp hi
    rw [List.getD_eq_getElem?_getD, List.getElem?_eq_getElem hi']
    exact h _ (List.getElem_mem hi')
theorem call_all1 (hc : X.calm = true) : CallR X (.builtin "all") (fun xs H Q => ∃ (p : Addr) (bs : List Bool), xs = [.ref p] ∧ SqL X.K H p (bs.map V.bl) ∧ Q (.bl (bs.all id)) H) := by
  intro pins s σ H xs us Q I r h
  obtain ⟨p, bs, rfl, hq, q⟩ := h
  obtain ⟨u, rfl, ru⟩ := vals1 r
  cases ru
  obtain ⟨its, rv, pl, hz⟩ := I.list hq
  have hlt : p < s.heap.objs.size := by obtain ⟨_, e, _⟩ := pl.isList; exact Heap.lt_size e
  have hlen : its.toArray.size = bs.length := by have := rv.length; rw [List.length_map] at this; rw [List.size_toArray]; exact this.symm
  refine call_all_walk (wpAny_pyIter_list pl.isList ?_)
  refine (c_EEEEEEEAAAA s.heap.objs.size _ _ _ _ _ (fun i => bs.getD i false) rfl (Walks.list (A := X.A.in1) (I.ok.hd hc) s.heap.objs.size p (Nat.ne_of_lt hlt) its.toArray) ⟨(c_EAA _ (Heap.get?_push_size _ rfl) rfl rfl), pl.isList.push _⟩ ?_ (fun h' tk hk => ?_))
  · intro i v s' Q' E' hP hQ
    have e := bools_get rv (i := i) (v := v) (by simpa using hP)
    rw [e]
    exact wpAny_truthy_bool hQ
  · refine (c_EEAA (.bl (bs.all id)) H (I.kept fun b o e => hk b o (fun z => ?_) (Heap.get?_push_of_some _ e)) ?_ q)
    · have z' : b = s.heap.objs.size := by simpa using z
      exact absurd (Heap.lt_size e) (by rw [z']; exact Nat.lt_irrefl _)
    · show Value.bool _ = Value.bool _
      rw [hlen, all_getD]
theorem call_maxI (hc : X.calm = true) : CallR X (.builtin "max") (fun xs H Q => ∃ i j, xs = [.int i, .int j] ∧ Q (.int (max i j)) H) := by
  intro pins s σ H xs us Q I r h
  obtain ⟨i, j, rfl, q⟩ := h
  refine call_max2 hc pins s σ H _ us Q I r (c_EEA i j rfl ?_)
  have e : (if j > i then j else i) = max i j := by split <;> omega
  rw [e]; exact q
/-- a product of two numbers below 2 ^ 1000 -/
def CBig (i j : Int) : Prop := i.natAbs < 2 ^ 1000 ∧ j.natAbs < 2 ^ 1000
end

/-! ### == -/
section
variable {X : Cx} {pins : List (Addr × Obj)} {σ : St} {H : Hp} {s : Shared}
/-- two values are equal or not, to a depth -/
inductive DEq (K : PySem.W.Frag) (H : Hp) : Nat → V → V → Bool → Prop where
  | int (n : Nat) (i j : Int) : DEq K H n (.int i) (.int j) (i == j)
  | bl (n : Nat) (i j : Bool) : DEq K H n (.bl i) (.bl j) (i == j)
  | same (n : Nat) (a : Addr) : DEq K H n (.ref a) (.ref a) true
  | lsts (n : Nat) {a b : Addr} {xs ys : List V} (ha : SqL K H a xs) (hb : SqL K H b ys) (hl : xs.length = ys.length) (hi : ∀ (j : Nat) (x y : V), xs[j]? = some x → ys[j]? = some y → DEq K H n x y true) : DEq K H (n + 1) (.ref a) (.ref b) true
theorem eqAt_same {A : Around} (v : Value) : SeqAt.EqAt A s v v true := fun prog w E Q hq => by
  unfold eqBool
  refine wpAny_holding ?_
  refine wpAny_ite_split (fun _ => ?_) (fun h => absurd (by simp) h)
  exact wpAny_bind (wpAny_rule (wpAny_pure hq))
theorem items_at (I : Inv X pins σ H s) {A : Around} {xs ys : List V} {its its2 : List Value} {e : Nat → Bool} (r : Vals xs its) (r2 : Vals ys its2)
    (h : ∀ (j : Nat) (x y : V), xs[j]? = some x → ys[j]? = some y → ∀ u v, RelV x u → RelV y v → SeqAt.EqAt A s u v (e j)) :
    ∀ j (h1 : j < its.toArray.size) (h2 : j < its2.toArray.size), SeqAt.EqAt A s its.toArray[j] its2.toArray[j] (e j) := by
  intro j h1 h2
  have l1 := r.length
  have l2 := r2.length
  have j1 : j < xs.length := by rw [List.size_toArray] at h1; omega
  have j2 : j < ys.length := by rw [List.size_toArray] at h2; omega
  obtain ⟨u, hu, ru⟩ := r.get (i := j) (x := xs[j]) (by simp [j1])
  obtain ⟨v, hv, rv⟩ := r2.get (i := j) (x := ys[j]) (by simp [j2])
  have e1 : its.toArray[j] = u := by
    have := (List.getElem?_eq_some_iff.mp hu).2
    simpa using this
  have e2 : its2.toArray[j] = v := by
    have := (List.getElem?_eq_some_iff.mp hv).2
    simpa using this
  rw [e1, e2]
  exact h j _ _ (by simp [j1]) (by simp [j2]) u v ru rv
theorem all_true (n : Nat) : ((List.range n).all fun _ => true) = true := by simp
theorem DEq.at (I : Inv X pins σ H s) {n : Nat} {x y : V} {k : Bool} (d : DEq X.K H n x y k) : ∀ (A : Around), A.units + n < cLine → ∀ u v, RelV x u → RelV y v → SeqAt.EqAt A s u v k := by
  induction d with
  | int n i j =>
    intro A hu u v ru rv
    obtain ⟨t, rfl⟩ := ru
    obtain ⟨t', rfl⟩ := rv
    exact SeqAt.EqAt.int_int i t j t'
  | bl n i j =>
    intro A hu u v ru rv
    cases ru
    cases rv
    exact SeqAt.EqAt.bool_bool i j
  | same n a =>
    intro A hu u v ru rv
    cases ru
    cases rv
    exact eqAt_same _
  | @lsts n a b xs ys ha hb hl hi ih =>
    intro A hu u v ru rv
    cases ru
    cases rv
    by_cases hab : a = b
    · subst hab; exact eqAt_same _
    obtain ⟨its, r, p, hz⟩ := I.list ha
    obtain ⟨its2, r2, p2, hz2⟩ := I.list hb
    have hsz : its.toArray.size = its2.toArray.size := by simp only [List.size_toArray]; rw [← r.length, ← r2.length]; exact hl
    have q := SeqAt.RcAt.lists (A := A) (e := fun _ => true) p.isList p2.isList hsz (by omega) (items_at I r r2 fun j x y hx hy u v ru rv => ih j x y hx hy A.in1 (by show A.units + 1 + n < cLine; omega) u v ru rv)
    rw [all_true] at q
    exact SeqAt.EqAt.of_refs hab q
def LEq (K : PySem.W.Frag) (H : Hp) (n : Nat) (xs ys : List V) (k : Bool) : Prop :=
  (xs.length ≠ ys.length ∧ k = false) ∨ (xs.length = ys.length ∧ ∃ e : Nat → Bool, (∀ (j : Nat) (x y : V), xs[j]? = some x → ys[j]? = some y → DEq K H n x y (e j)) ∧ k = (List.range xs.length).all e)
theorem LEq.yes {K : PySem.W.Frag} {n : Nat} {xs ys : List V} (hl : xs.length = ys.length) (h : ∀ (j : Nat) (x y : V), xs[j]? = some x → ys[j]? = some y → DEq K H n x y true) : LEq K H n xs ys true :=
  .inr (c_AEA hl (fun _ => true) h ((all_true _).symm))
def flat1 : V → Bool
  | .int _ => true
  | .ref _ => true
  | .bl _ => true
  | _ => false
theorem DEq.refl1 {K : PySem.W.Frag} {n : Nat} {x : V} (h : flat1 x = true) : DEq K H n x x true := by
  cases x with
  | int i =>
    have q := DEq.int (K := K) (H := H) n i i
    rw [beq_self_eq_true] at q
    exact q
  | ref a => exact .same n a
  | bl i =>
    have q := DEq.bl (K := K) (H := H) n i i
    rw [beq_self_eq_true] at q
    exact q
  | _ => cases h
theorem LEq.refl1 {K : PySem.W.Frag} {n : Nat} {xs : List V} (h : ∀ x ∈ xs, flat1 x = true) : LEq K H n xs xs true :=
  .yes rfl fun j x y hx hy => by
    rw [hx] at hy
    cases hy
    exact DEq.refl1 (h x (List.mem_of_getElem? hx))
theorem LEq.nums {K : PySem.W.Frag} {n : Nat} (ns ms : List Int) : LEq K H n (ns.map V.int) (ms.map V.int) (decide (ns = ms)) := by
  by_cases hl : ns.length = ms.length
  · refine .inr (c_AEA (by simpa using hl) (fun j => (ns.getD j 0) == (ms.getD j 0)) (fun j x y hx hy => ?_) ?_)
    · rw [List.getElem?_map] at hx hy
      cases e1 : ns[j]? with
      | none => rw [e1] at hx; cases hx
      | some i =>
        cases e2 : ms[j]? with
        | none => rw [e2] at hy; cases hy
        | some k =>
          rw [e1] at hx
          rw [e2] at hy
          cases hx
          cases hy
          have f1 : ns.getD j 0 = i := by rw [List.getD_eq_getElem?_getD, e1]; rfl
          have f2 : ms.getD j 0 = k := by rw [List.getD_eq_getElem?_getD, e2]; rfl
          show DEq K H n (V.int i) (V.int k) (ns.getD j 0 == ms.getD j 0)
          rw [f1, f2]
          exact .int n i k
    · rw [Bool.eq_iff_iff, decide_eq_true_iff, List.all_eq_true]
      constructor
      · intro e j _
        rw [e]; simp
      · intro h
        refine List.ext_getElem hl fun j h1 h2 => ?_
        have := h j (List.mem_range.mpr (by rw [List.length_map]; exact h1))
        rw [List.getD_eq_getElem?_getD, List.getD_eq_getElem?_getD, List.getElem?_eq_getElem h1, List.getElem?_eq_getElem h2] at this
        simpa using this
  · refine .inl ⟨by simpa using hl, ?_⟩
    rw [decide_eq_false_iff_not]
    intro e
    exact hl (by rw [e])
def rEqD (K : PySem.W.Frag) (neg : Bool) : R2 := fun x y H Q => ∃ a b xs ys k, x = .ref a ∧ y = .ref b ∧ SqL K H a xs ∧ SqL K H b ys ∧ LEq K H 4 xs ys k ∧ Q (.bl (if neg then !k else k)) H
theorem op_eqD (hu : X.A.units + 8 < cLine) : OpR X (compareOp .Eq) (rEqD X.K false) := by
  intro pins s σ H x y v u Q I rx ry h
  obtain ⟨a, b, xs, ys, k, rfl, rfl, ha, hb, hk, q⟩ := h
  cases rx
  cases ry
  obtain ⟨its, r, p, hz⟩ := I.list ha
  obtain ⟨its2, r2, p2, hz2⟩ := I.list hb
  have l1 := r.length
  have l2 := r2.length
  rcases hk with ⟨hl, rfl⟩ | ⟨hl, e, he, rfl⟩
  · exact SeqAt.eq_list_lengthsAt p.isList p2.isList (by simp only [List.size_toArray, bne_iff_ne, ne_eq]; omega) (by omega) (c_EEAA (.bl false) H I rfl q)
  · refine SeqAt.eq_listAt (e := e) p.isList p2.isList (by simp only [List.size_toArray]; omega) (by omega) (items_at I r r2 fun j x y hx hy u v ru rv => (he j x y hx hy).at I X.A.in1 (by show X.A.units + 1 + 4 < cLine; omega) u v ru rv) (c_EEAA (.bl ((List.range xs.length).all e)) H I ?_ q)
    show Value.bool _ = Value.bool _
    rw [List.size_toArray, l1]
theorem op_neD (hu : X.A.units + 8 < cLine) : OpR X (compareOp .NotEq) (rEqD X.K true) := by
  intro pins s σ H x y v u Q I rx ry h
  obtain ⟨a, b, xs, ys, k, rfl, rfl, ha, hb, hk, q⟩ := h
  cases rx
  cases ry
  obtain ⟨its, r, p, hz⟩ := I.list ha
  obtain ⟨its2, r2, p2, hz2⟩ := I.list hb
  have l1 := r.length
  have l2 := r2.length
  rcases hk with ⟨hl, rfl⟩ | ⟨hl, e, he, rfl⟩
  · exact (SeqAt.RcNeAt.lists_lengths p.isList p2.isList (by simp only [List.size_toArray, bne_iff_ne, ne_eq]; omega) (by omega)) _ _ _ _ (c_EEAA (.bl true) H I rfl q)
  · refine (SeqAt.RcNeAt.lists (e := e) p.isList p2.isList (by simp only [List.size_toArray]; omega) (by omega) (items_at I r r2 fun j x y hx hy u v ru rv => (he j x y hx hy).at I X.A.in1 (by show X.A.units + 1 + 4 < cLine; omega) u v ru rv)) _ _ _ _ (c_EEAA (.bl (!(List.range xs.length).all e)) H I ?_ q)
    show Value.bool _ = Value.bool _
    rw [List.size_toArray, l1]
end
/-! ### the same with the text's part named (within a comprehension) -/
section
variable {X : Cx} {K : PySem.W.Frag} {pos : Pos}
end
/-! ### heaps -/
theorem same_new {H : Hp} {p : Addr} (h : H p = none) (o : HO) : Same H (upd H p o) := fun b u q => by rw [upd_ne (ne_of_none q h)]; exact q
theorem Same.tup {K : PySem.W.Frag} {H H' : Hp} {a : Addr} {xs : List V} (e : Same H H') (h : SqT K H a xs) : SqT K H' a xs := by
  rcases h with (h | ⟨o, h⟩) | h
  · exact .inl (.inl (e _ _ h))
  · exact .inl (.inr ⟨o, e _ _ h⟩)
  · exact .inr h
end L2
set_option maxHeartbeats 4000000
/-! Exceptions of own classes over the hand layer: raise, leaving frames, try .. except C as n. -/
namespace L2
open PySem PySem.Spec PyProof.Rows

/-- an exception of an own class lies behind a call -/
def CXr (P : Program) (w : World) : CXT := fun outer H s E e s' =>
  ∃ (a C : Addr) (a0 : Value) (B : Heap) (H' : Hp), e = .ref a ∧ Heap.FlyingW B outer a (.ref C) a0 s'.heap ∧ s'.os = s.os ∧ AllBare s'.gens ∧
    Un (frs outer) [] H H' s.heap s'.heap ∧ HOk P w H' B ∧ (∀ b o, s.heap.get? b = some o → H b = none → b ∉ frs outer → B.get? b = some o) ∧
    (∀ b o, s.heap.get? b = some o → b ∉ frs outer → ∃ o', B.get? b = some o') ∧ E (.ref C) none H'

section
variable {X : Cx} {pins : List (Addr × Obj)} {σ : St} {H1 H' : Hp} {s1 : Shared} {h1 h' B : Heap}
/-- the slots of the frames changed, all else is kept -/
theorem un_here (I : Inv X pins σ H1 s1) (un : Un (frs X.stack) [] H1 H' s1.heap h1) (kB : ∀ b o, s1.heap.get? b = some o → H1 b = none → b ∉ frs X.stack → B.get? b = some o)
    (tB : ∀ b o, s1.heap.get? b = some o → b ∉ frs X.stack → ∃ o', B.get? b = some o') (st : ∀ b o, B.get? b = some o → h'.get? b = some o) (up : h1.UpToSlots h') :
    Un (frs X.stack) [] H1 H' s1.heap h' := by
  have sl : ∀ b o, s1.heap.get? b = some o → b ∈ frs X.stack → ∃ sl, h'.get? b = some { o with slots := sl } := fun b o e hb => by
    obtain ⟨_, o', ho', hd⟩ := I.stack.mem hb
    rw [e] at ho'
    cases ho'
    obtain ⟨s2, e2⟩ := un.any e (I.stkFree b hb) (by simp)
    obtain ⟨s3, e3⟩ := up b _ e2 hd
    exact ⟨s3, e3⟩
  refine ⟨fun b o e n hb _ => st b o (kB b o e n hb), fun b o e _ hb _ => sl b o e hb, un.free, fun b o e _ => ?_, un.tups, un.frzs, un.tbls⟩
  by_cases hb : b ∈ frs X.stack
  · obtain ⟨s2, e2⟩ := sl b o e hb
    exact ⟨_, e2⟩
  · obtain ⟨o', e2⟩ := tB b o e hb
    exact ⟨o', st b o' e2⟩
theorem frs_cons {env : Env} {outer : List Env} {L : Addr} (hf : env.frame = some L) : frs (env :: outer) = L :: frs outer := by
  unfold frs
  rw [List.filterMap_cons, hf]
/-- seen from the entry of the frame that is left -/
theorem un_left (I : Inv X pins σ H1 s1) (hst : X.stack = X.env :: X.outer) (hf : X.env.frame = some X.env.locals) (hex : X.ex = []) (un : Un (frs X.stack) [] H1 H' s1.heap h1)
    (kB : ∀ b o, s1.heap.get? b = some o → H1 b = none → b ∉ frs X.stack → B.get? b = some o)
    (tB : ∀ b o, s1.heap.get? b = some o → b ∉ frs X.stack → ∃ o', B.get? b = some o') (st : ∀ b o, B.get? b = some o → h'.get? b = some o) (up : h1.UpToSlots h') :
    Un X.fs [] X.H₀ H' X.s₀.heap h' ∧ (∀ b o, X.s₀.heap.get? b = some o → X.H₀ b = none → b ∉ X.fs → B.get? b = some o) ∧ (∀ b o, X.s₀.heap.get? b = some o → b ∉ X.fs → ∃ o', B.get? b = some o') := by
  have U := un_here I un kB tB st up
  have nx : ∀ b, b ∉ X.ex := fun b => by rw [hex]; simp
  have ne : ∀ b o, X.s₀.heap.get? b = some o → b ∉ X.fs → b ∉ frs X.stack := fun b o e hb hm => by
    rw [hst, frs_cons hf] at hm
    rcases List.mem_cons.mp hm with z | z
    · exact absurd z (Nat.ne_of_lt (Nat.lt_of_lt_of_le (Heap.lt_size e) I.ok.above))
    · exact hb z
  have sub : ∀ b, b ∈ X.fs → b ∈ frs X.stack := fun b hb => by
    rw [hst, frs_cons hf]
    exact List.mem_cons_of_mem _ hb
  refine (c_AA ⟨fun b o e n hb _ => ?_, fun b o e n hb _ => ?_, fun b o e n _ => ?_, fun b o e _ => ?_, fun b xs e => U.tups b xs (I.base.tups b xs e), fun b o u e => U.frzs b o u (I.base.frzs b o u e), fun b ps e => ?_⟩ (fun b o e n hb => ?_) (fun b o e hb => ?_))
  · exact U.keep b o (I.base.keep b o e n hb (nx b)) (I.base.free b o e n (nx b)) (ne b o e hb) (by simp)
  · obtain ⟨s2, e2⟩ := I.base.slot b o e n hb (nx b)
    obtain ⟨s3, e3⟩ := U.slot b _ e2 (I.base.free b o e n (nx b)) (sub b hb) (by simp)
    exact ⟨s3, e3⟩
  · obtain ⟨o', e1⟩ := I.base.there b o e (nx b)
    exact U.free b o' e1 (I.base.free b o e n (nx b)) (by simp)
  · obtain ⟨o', e1⟩ := I.base.there b o e (nx b)
    exact U.there b o' e1 (by simp)
  · obtain ⟨m1, e1⟩ := I.base.tbls b ps e
    obtain ⟨m2, e2⟩ := U.tbls b _ e1
    exact ⟨m1 ++ m2, by rw [e2, Array.append_assoc]⟩
  · exact kB b o (I.base.keep b o e n hb (nx b)) (I.base.free b o e n (nx b)) (ne b o e hb)
  · obtain ⟨o', e1⟩ := I.base.there b o e (nx b)
    exact tB b o' e1 (ne b o e hb)
/-- the heap without the frames -/
theorem hid_ok (I : Inv X pins σ H1 s1) : HOk X.prog X.w H1 (PySem.W.hideAll s1.heap (frs X.stack)) := fun a o e => by
  refine (I.hok a o e).stay (fun b u hb q => PySem.W.hideAll_get _ q fun hm => ?_) (fun _ q => q) fun _ _ q => q
  have n := I.stkFree b hm
  rcases hb with z | z
  · rw [z, e] at n
    cases n
  · rw [z] at n
    cases n
end

/-! ### leaving a frame -/
section
variable {P : Program} {w : World} {K : PySem.W.Frag} {mg : Str → Option Value} {base : Heap} {N : List Str} {qual : Str} {scope : Scope} {f : Addr} {cd : Value} {A : Around} {outer : List Env} {s : Shared} {H : Hp} {E : XK}
/-- what a callee's exception becomes in the caller that has no try around the call -/
theorem pass_cx : Passes (CXr P w) (cxOf (CXr P w) P w K mg base N qual scope f cd A outer s H E) E := by
  intro pins σ H1 s1 e s' I h
  obtain ⟨a, C, a0, B, H', rfl, fl, os, bare, un, hok, kB, tB, q⟩ := h
  refine wpAny_leaves_onW (env := envOfC qual scope s.heap.objs.size f cd) (outer := outer) I.ok.frames rfl fl fun h' fl' up => ?_
  obtain ⟨u1, u2, u3⟩ := un_left (h' := h') I rfl rfl rfl un kB tB fl'.1 up
  exact (c_EEEEEAAAAAAAA a C a0 B H' rfl fl' (os.trans I.os) bare u1 hok u2 u3 q)

/-- an exception that is made here goes where the body's exceptions go -/
def RaisesTo (X : Cx) (E : XK) : Prop := ∀ (pins : List (Addr × Obj)) (σ : St) (H : Hp) (s : Shared) (h' : Heap) (e C : Addr) (vs : List Value), Inv X pins σ H s → Heap.MadeExcOf s.heap h' e (.ref C) vs → E (.ref C) none H → X.xe (.ref e) { s with heap := h' }
theorem raises_cx : RaisesTo (cxOf (CXr P w) P w K mg base N qual scope f cd A outer s H E) E := by
  intro pins σ H1 s1 h' e C vs I hm q
  have hin : ∀ env ∈ envOfC qual scope s.heap.objs.size f cd :: outer, ∀ b, env.frame = some b → b ∈ frs (envOfC qual scope s.heap.objs.size f cd :: outer) := fun env he b hb => List.mem_filterMap.mpr (c_EA env he hb)
  refine wpAny_leaves_madeW (base := PySem.W.hideAll s1.heap (frs (envOfC qual scope s.heap.objs.size f cd :: outer))) (h := s1.heap) (env := envOfC qual scope s.heap.objs.size f cd) (outer := outer) (s := { s1 with heap := h' })
    I.ok.frames rfl (fun b o z => PySem.W.of_hideAll _ z) (PySem.W.funFrames_hide I.stack hin) hm fun h'' t fl tup ht up => ?_
  obtain ⟨u1, u2, u3⟩ := un_left (h' := h'') I rfl rfl rfl (Un.kept (H := H1) hm.keeps) (fun b o e n hb => PySem.W.hideAll_get _ e hb) (fun b o e hb => ⟨o, PySem.W.hideAll_get _ e hb⟩) fl.1 up
  exact (c_EEEEEAAAAAAAA e C (.ref t) _ H1 rfl fl I.os I.bare u1 (hid_ok I) u2 u3 q)
theorem own_cx : PassesOwn (model P w) (cxOf (CXr P w) P w K mg base N qual scope f cd A outer s H E).A (cxOf (CXr P w) P w K mg base N qual scope f cd A outer s H E).env (cxOf (CXr P w) P w K mg base N qual scope f cd A outer s H E).xe := PassesOwn.leaving
end
end L2

set_option maxHeartbeats 4000000
/-! raise C(..), try .. except C as n, for own classes under ValueError. -/
namespace L2
open PySem PySem.Spec PyProof.Rows

abbrev VE : List Value := [.type "ValueError", .type "Exception", .type "BaseException", .type "object"]
/-- an own error class of the text -/
structure ExcC (K : PySem.W.Frag) (mg : Str → Option Value) (x : Str) (C : Addr) : Prop where
  m : mg x = some (.ref C)
  e : PySem.W.excIn K C VE "ValueError.__new__" = true
theorem ExcC.own {K : PySem.W.Frag} {mg : Str → Option Value} {x : Str} {C : Addr} {h : Heap} (c : ExcC K mg x C) (kin : K.In h) : OwnCls x C VE "ValueError.__new__" mg h := by
  have e := c.e
  unfold PySem.W.excIn at e
  split at e
  case h_2 => cases e
  case h_1 od cls slo look =>
  split at e
  case h_2 => cases e
  case h_1 c1 mro1 z0 z1 z2 z3 nid z5 em es =>
  simp only [Bool.and_eq_true, beq_iff_eq, Bool.not_eq_true'] at e
  obtain ⟨⟨⟨⟨⟨y1, y2⟩, y3⟩, y4⟩, y5⟩, y6⟩ := e
  obtain ⟨g1, g2, g3, g4, g5, g6, g7, g8, g9, g10, g11⟩ := cls
  dsimp only at em y3 y5 y6
  subst em y3 y1 y2
  obtain ⟨sll⟩ := slo
  dsimp only at es
  subst es
  refine ⟨c.m, mro1, g4, g1, g5, g2, g6, g7, g8, g9, g10, od, z0, z1, z2, z3, z5, h.nsMap g4, kin _ _ look, ?_, ?_, ?_⟩
  · exact .of_isNs (PySem.W.isNs_of_in kin y5)
  · exact PySem.W.nsMap_none_of_in kin y5 y6
  · exact PySem.W.tail_of_in kin y4

def tRaise (C : Addr) (E : XK) (ta : TA) : TS := fun _ σ H => ta σ H fun vs H1 => vs.length ≤ sizeLine ∧ E (.ref C) none H1
section
variable {X : Cx} {E : XK} {x : Str} {C : Addr} {np cpos pos : Pos} {e : Expr} {es : List Expr} {t : TA}
theorem ps_raise (hR : RaisesTo X E) (hc : X.calm = true) (hg : Gl X x) (c : ExcC X.K X.mg x C) (ha : PA X (e :: es) t) (hdb : (x == ("__debug__" : Str)) = false := by decide)
    (he : starEach (e :: es) X.env = (false, eval e X.env) :: starEach es X.env := by rfl) (hpl : (backTo cpos (starEach es X.env)).any (·.1) = false := by rfl) :
    PS X (.Raise (some (.Call (.Name x np) (e :: es) [] cpos)) none pos) (tRaise C E t) := by
  intro pins s σ H D I h
  have O := c.own I.ok.mod.kin
  obtain ⟨tl, N, nm, q, bs, hdct, sn, sub, ab, col, dd, k0, k1, k2, k3, k5, mN, hC, hN, hni, T⟩ := O.obj
  have hplain : (backTo cpos (starEach (e :: es) X.env)).any (·.1) = false := by
    rw [he]
    show (false || (backTo cpos (starEach es X.env)).any (·.1)) = false
    rw [hpl]
    rfl
  refine wpAny_Raise_call_subT (C := C) (nm := nm) (q := q) (N := N) (bs := bs) (bm := tl) (hdct := hdct) (sn := sn) (sub := sub) (ab := ab) (col := col) (dd := dd) (k0 := k0) (k1 := k1) (k2 := k2) (k3 := k3) (k5 := k5) (mN := mN)
    PySem.F.excBase_ValueError (T.hasType PySem.F.excBase_ValueError.hasBase) (I.ok.hd hc) hplain hni (ld_glob I hg c.m ⟨rfl, ?_⟩ hdb)
  have go := ha cpos pins s σ H _ I h
  rw [he] at go ⊢
  refine Calls.evalArgs_plain (wpAny_mono go (fun us s2 z => ?_) fun _ _ y => y)
  obtain ⟨vs, H1, I1, r, hl, w1⟩ := z
  exact (c_AAAAA rfl (by rw [← r.length]; exact hl) (I1.bk _ _ hC) (hN.keeps I1.bk) (T.keeps I1.bk) (fun h' e' hm => hR pins σ H1 s2 h' e' C us I1 hm w1))
end

/-! ### try .. except C as n -/
abbrev Cx.pin (X : Cx) (pins : List (Addr × Obj)) : Cx := { X with pn := X.pn ++ pins }
abbrev Cx.tryC (X : Cx) (pins : List (Addr × Obj)) (E : XK) : Cx :=
  (X.pin pins).wish fun e s' => ∃ (pins' : List (Addr × Obj)) (σ' : St) (H1 : Hp) (s1 : Shared), Inv (X.pin pins) pins' σ' H1 s1 ∧ CXr X.prog X.w X.stack H1 s1 E e s'
/-- the suite's context: the exception is handled, and stays as it is -/
abbrev Cx.sui (X : Cx) (a : Addr) (ob : Obj) : Cx := { X with A := X.A.mark (some (.ref a)), calm := false, pn := X.pn ++ [(a, ob)], xe := fun _ _ => False }
section
variable {X : Cx} {pins ps : List (Addr × Obj)} {σ : St} {H : Hp} {s : Shared}
theorem Cx.Ok.pin (ok : X.Ok) (ps : List (Addr × Obj)) : (X.pin ps).Ok := ⟨ok.mod, ok.kind, ok.glob, ok.blt, ok.above, ok.inj, ok.has, ok.cab, ok.hd, ok.frames, ok.stk, ok.exf, ok.bs, ok.bsz, ok.noex, ok.exfs, ok.funs, ok.frf⟩
theorem Cx.Ok.unpin (ok : (X.pin ps).Ok) : X.Ok := ⟨ok.mod, ok.kind, ok.glob, ok.blt, ok.above, ok.inj, ok.has, ok.cab, ok.hd, ok.frames, ok.stk, ok.exf, ok.bs, ok.bsz, ok.noex, ok.exfs, ok.funs, ok.frf⟩
theorem Cx.Ok.sui (ok : X.Ok) (a : Addr) (ob : Obj) : (X.sui a ob).Ok := ⟨ok.mod, ok.kind, ok.glob, ok.blt, ok.above, ok.inj, ok.has, ok.cab, fun z => (nomatch z), ok.frames, ok.stk, ok.exf, ok.bs, ok.bsz, ok.noex, ok.exfs, ok.funs, ok.frf⟩
theorem Inv.pinIn (I : Inv X pins σ H s) : Inv (X.pin pins) [] σ H s :=
  ⟨I.ok.pin pins, I.os, I.bare, I.base, I.loc, I.cell, I.free, I.freeC, fun p hp => I.pin p (by rw [List.append_nil] at hp; exact hp), I.hok, I.len⟩
theorem Inv.pinOut (I : Inv (X.pin pins) ps σ H s) : Inv X pins σ H s :=
  ⟨I.ok.unpin, I.os, I.bare, I.base, I.loc, I.cell, I.free, I.freeC, fun p hp => I.pin p (List.mem_append_left _ hp), I.hok, I.len⟩
theorem pass_try {E : XK} : Passes (CXr X.prog X.w) (X.tryC pins E) E := fun ps σ H s e s' I h => (c_EEEEA ps σ H s I.unwish h)
theorem ObjOk.is {P : Program} {w : World} {H : Hp} {h : Heap} {a : Addr} {o : HO} (x : ObjOk P w H h a o) : ∃ u, h.get? a = some u := by
  cases o with
  | lst xs => obtain ⟨_, _, _, _, e⟩ := x; exact ⟨_, e⟩
  | tup xs => obtain ⟨_, _, _, o, e, _⟩ := x; exact ⟨_, e⟩
  | dK kvs => obtain ⟨_, _, _, _, o, _, _, e, _⟩ := x; exact ⟨_, e⟩
  | dT kvs => obtain ⟨_, _, _, _, o, _, _, e, _⟩ := x; exact ⟨_, e⟩
  | set S n => obtain ⟨o, _, _, _, e, _⟩ := x; exact ⟨_, e⟩
  | ins C dx fs => obtain ⟨_, _, _, e, _⟩ := x; exact ⟨_, e⟩
  | own y => exact x
  | xd fs => obtain ⟨_, ⟨_, _, _, e, _⟩, _⟩ := x; exact ⟨_, e⟩
  | rng lo hi => obtain ⟨_, _, _, e⟩ := x; exact ⟨_, e⟩
  | frz ob u => exact ⟨_, x.1⟩
  | tbl ps => exact ⟨_, (show h.get? a = some _ from x)⟩
  | met f y => exact ⟨_, (show h.get? a = some _ from x)⟩
  | ext φ => exact x.2.1
/-- the exception's name goes: every name of the frame is forgotten -/
theorem Inv.goes {h' : Heap} {m' : Str → Option Value} {t' : Nat} {a : Addr} {ob : Obj} (I : Inv (X.sui a ob) pins σ H s) (hc : X.calm = true → X.A.handled = none) (hn : h'.Ns X.env.locals m') (hs : Heap.SameBut X.env.locals s.heap h') :
    Inv X pins (List.replicate X.N.length none) H { s with heap := h', toks := t' } := by
  have ok := I.ok
  have k : ∀ b o, b ≠ X.env.locals → s.heap.get? b = some o → h'.get? b = some o := fun b o ne e => (hs.2 b ne).trans e
  have neL : ∀ b o, X.s₀.heap.get? b = some o → b ≠ X.env.locals := fun b o e => Nat.ne_of_lt (Nat.lt_of_lt_of_le (Heap.lt_size e) I.ok.above)
  refine ⟨⟨ok.mod, ok.kind, ok.glob, ok.blt, ok.above, ok.inj, ok.has, ok.cab, hc, ok.frames, ok.stk, ok.exf, ok.bs, ok.bsz, ok.noex, ok.exfs, ok.funs, ok.frf⟩, I.os, I.bare, ⟨fun b o e n hb hx => k b o (neL b o e) (I.base.keep b o e n hb hx), fun b o e n hb hx => ?_, I.base.free, fun b o e hx => ?_, I.base.tups, I.base.frzs, I.base.tbls⟩, (c_EA m' hn (fun i x v _ hv _ => ?_)), fun x c e => ?_, I.free, I.freeC, fun p hp => ?_, fun b o e => ?_, List.length_replicate⟩
  · obtain ⟨sl, e2⟩ := I.base.slot b o e n hb hx
    exact ⟨sl, k b _ (neL b o e) e2⟩
  · obtain ⟨o', e2⟩ := I.base.there b o e hx
    exact ⟨o', k b _ (neL b o e) e2⟩
  · rw [List.getElem?_replicate] at hv
    split at hv <;> cases hv
  · obtain ⟨v, o, ho, hd⟩ := I.cell x c e
    exact ⟨v, (c_EA o (k c o (I.cne x c e) ho) hd)⟩
  · obtain ⟨e1, e2, e3, e4, e5⟩ := I.pin p (by
      rcases List.mem_append.mp hp with z | z
      · exact List.mem_append_left _ (List.mem_append_left _ z)
      · exact List.mem_append_right _ z)
    exact (c_AAAA (k _ _ e3 e1) e2 e3 e4 e5)
  · refine (I.hok b o e).stay (fun c u hc q => k c u ?_ q) (fun _ q => q) fun _ _ q => q
    intro z
    have fr := I.free
    rcases hc with y | y
    · rw [← y, z] at e
      exact absurd (e.symm.trans fr) (by simp)
    · rw [z] at y
      exact absurd (y.symm.trans fr) (by simp)
end

def tTry (K : PySem.W.Frag) (D0 : Addr) (len i : Nat) (E : XK) (tb : TS) (ts : Addr → Obj → TS) : TS := fun D σ H => tb D σ H ∧
  ∀ a ob C H', ob.cls = .ref C → H' a = none → E (.ref C) none H' → PySem.W.mroIn K C (.ref D0) = some true ∧ ts a ob { nx := fun _ _ => False, rt := D.rt } ((List.replicate len none).set i (some (.ref a))) H'

theorem exc_matches {M : Model} {A : Around} {E : Value → Shared → Prop} {h : Heap} {g : Array GenState} {d : Drawn} {t : Nat} {os : OsState} {K : PySem.W.Frag} {mg : Str → Option Value} {x : Str} {D C a : Addr} {ob : Obj} {Q : Bool → Shared → Prop} (kin : K.In h)
    (O : OwnCls x D VE "ValueError.__new__" mg h) (he : h.get? a = some ob) (hcls : ob.cls = .ref C) (hm : PySem.W.mroIn K C (.ref D) = some true) (hq : Q true ⟨h, g, d, t, os⟩) :
    wpAny M A (excMatches (.ref a) (.ref D)) Q E ⟨h, g, d, t, os⟩ := by
  obtain ⟨tl, N, nm, q, bs, hdct, sn, sub, ab, col, dd, k0, k1, k2, k3, k5, mN, hC, hN, hni, T⟩ := O.obj
  have hcB : (Value.ref D :: tl).contains (.type "BaseException") = true := by
    rw [List.contains_cons, T.hasType PySem.F.excBase_ValueError.hasBase, Bool.or_true]
  have f := tc_notTuple
  have L := PySem.W.looks_mroIn (M := M) kin hm
  unfold excMatches
  repeat (first | (with_reducible refine wpAny_loadPart_at he ?_; rw [hcls]) | with_reducible refine wpAny_loadPart_at hC ?_ | (with_reducible refine wpAny_isSubtype_exc hC ?_; rw [hcB]) | with_reducible refine L.at ?_ | wp_step)
  exact hq

section
variable {X : Cx} {E : XK} {tb : TS} {ts : Addr → Obj → TS} {x n : Str} {D0 : Addr} {i : Nat} {body suite : List Stmt} {b₀ : Stmt} {np hpos pos : Pos}
theorem ps_try (hst : X.stack = X.env :: X.outer) (hf : X.env.frame = some X.env.locals) (hg : Gl X x) (c : ExcC X.K X.mg x D0) (hN : X.N.Nodup) (hi : X.N[i]? = some n) (hn : X.env.scope.names.lookup n = some .local)
    (hb : ∀ pins, PSs (X.tryC pins E) body tb) (hs : ∀ a ob, PSs (X.sui a ob) (b₀ :: suite) (ts a ob)) (hdb : (x == ("__debug__" : Str)) = false := by decide) :
    PS X (.Try body [.ExceptHandler (some (.Name x np)) (some n) (b₀ :: suite) hpos] [] [] pos) (tTry X.K D0 X.N.length i E tb ts) := by
  intro pins s σ H D I ⟨h1, h2⟩
  refine wpAny_Try_except (wpAny_mono (hb pins [] s σ H D (I.pinIn.wish _) h1) (fun fl s1 q => ?_) fun e s1 q => ?_)
  · cases fl with
    | next =>
      obtain ⟨σ', H', J, q⟩ := q
      exact wpAny_execs_nil (c_EEA σ' H' J.unwish.pinOut q)
    | brk =>
      obtain ⟨σ', H', J, q⟩ := q
      exact (c_EEA σ' H' J.unwish.pinOut q)
    | cont =>
      obtain ⟨σ', H', J, q⟩ := q
      exact (c_EEA σ' H' J.unwish.pinOut q)
    | ret u =>
      obtain ⟨v, σ', H', J, r, q⟩ := q
      exact (c_EEEAA v σ' H' J.unwish.pinOut r q)
  · obtain ⟨pins', σ', H1, s2, J, a, C, a0, B, H', rfl, fl, os, bare, un, hok, kB, tB, q⟩ := q
    have fr : X.A.frames = some (X.env :: X.outer) := by rw [← hst]; exact I.ok.frames
    rw [hst] at fl
    refine wpAny_looks_onW fr hf fl fun h4 held up4 => ?_
    refine wpAny_landsW held fun h5 fl5 up5 => ?_
    have up45 := up4.trans up5
    obtain ⟨ob, hob, hcls⟩ := fl5.there
    have noH : H' a = none := by
      cases z : H' a with
      | none => rfl
      | some u =>
        obtain ⟨o, e⟩ := (hok a u z).is
        rw [fl.2.1] at e
        cases e
    obtain ⟨hm, hts⟩ := h2 a ob C H' hcls noH q
    -- the state as the handlers find it
    have inv : ∀ (A' : Prop) (h' : Heap) (t' : Nat), s1.heap.UpToSlots h' → (∀ b o, B.get? b = some o → h'.get? b = some o) → Inv X pins (List.replicate X.N.length none) H' { s1 with heap := h', toks := t' } := fun _ h' t' up st => by
      have U := un_here J un kB tB st up
      have J' : Inv (X.pin pins) pins' σ' H' { s1 with heap := h', toks := t' } := J.call' (ch := []) os U (hok.kept st) bare (fun b z => absurd z (by simp))
      refine J'.pinOut.weak ?_ fun i v z => ?_
      · rw [List.length_replicate]
        exact J.len.symm
      · rw [List.getElem?_replicate] at z
        split at z <;> cases z
    have notF : ∀ h' : Heap, h'.FunFrames B (X.env :: X.outer) → ∀ o : Obj, h'.get? a = some o → (∃ vs, o.data = .fields vs) → a ∉ frs X.stack := fun h' ff o e ⟨vs, ed⟩ z => by
      rw [hst] at z
      obtain ⟨_, o', ho', hd⟩ := ff.mem z
      rw [e] at ho'
      cases ho'
      exact hd vs ed
    have sui : ∀ (h' : Heap) (t' : Nat) (o : Obj), s1.heap.UpToSlots h' → Heap.FlyingW B (X.env :: X.outer) a (.ref C) a0 h' → h'.get? a = some o → Inv (X.sui a o) pins (List.replicate X.N.length none) H' { s1 with heap := h', toks := t' } := fun h' t' o up fl' eo => by
      have K := inv True h' t' up fl'.1
      obtain ⟨oe, vs, e1, _, e3, _⟩ := fl'.first
      rw [eo] at e1
      cases e1
      have nf := notF h' fl'.2.2.1 _ eo ⟨vs, e3⟩
      rw [hst, frs_cons hf] at nf
      refine ⟨K.ok.sui a _, K.os, K.bare, K.base, K.loc, K.cell, K.free, K.freeC, fun p hp => ?_, K.hok, K.len⟩
      rcases List.mem_append.mp hp with z | z
      · rcases List.mem_append.mp z with z | z
        · exact K.pin p (List.mem_append_left _ z)
        · have e : p = (a, o) := by simpa using z
          subst e
          exact (c_AAAA eo noH (fun y => nf (by rw [show a = X.env.locals from y]; exact List.mem_cons_self)) (fun y => nf (List.mem_cons_of_mem _ y)) (fun v y => by
            have y' : o.data = Data.cell v := y
            rw [e3] at y'
            cases y'))
      · exact K.pin p (List.mem_append_right _ z)
    have S5 := sui h5 s1.toks ob up45 fl5 hob
    refine wpAny_handleBy_cons (codeAny_handlers_test ?_) (by intro z; cases z)
    refine ld_glob (X := X.sui a ob) S5 hg c.m ?_ hdb
    refine exc_matches S5.kIn (c.own S5.kIn) hob hcls hm ?_
    refine codeAny_handlers_suite_as ?_
    refine lands_againW fl5 fun h6 fl6 up6 => ?_
    obtain ⟨ob6, hob6, hcls6⟩ := fl6.there
    obtain ⟨hm6, hts6⟩ := h2 a ob6 C H' hcls6 noH q
    have S6 := sui h6 s1.toks ob6 (up45.trans up6) fl6 hob6
    refine store_ok (X := X.sui a ob6) S6 hN hi (Or.inl hn) (v := .ref a) rfl (fun s7 S7 => ?_) (Or.inr hn)
    refine wpAny_mono (hs a ob6 pins s7 _ H' _ S7 hts6) (fun f s8 q8 => ?_) fun _ _ z => False.elim z
    cases f with
    | next =>
      obtain ⟨_, _, _, z⟩ := q8
      exact False.elim z
    | brk =>
      obtain ⟨_, _, _, z⟩ := q8
      exact False.elim z
    | cont =>
      obtain ⟨_, _, _, z⟩ := q8
      exact False.elim z
    | ret u =>
      obtain ⟨v, σ8, H8, S8, r8, q8⟩ := q8
      obtain ⟨m8, hn8, _⟩ := S8.loc
      refine wpAny_nameGoes (m := m8) hn hn8 (by rw [show X.env.scope.kind = .function from I.ok.kind]; rfl) fun h9 m9 hn9 hs9 => ?_
      exact (c_EEEAA v _ H8 (S8.goes I.ok.hd hn9 hs9) r8 q8)
end
end L2
set_option maxHeartbeats 4000000
/-! isinstance of a caught exception; f-strings; a new dict. -/
namespace L2
open PySem PySem.Spec PyProof.Rows PySem.W

/-- what is asked of an own error class for isinstance -/
structure ExcI (K : PySem.W.Frag) (C : Addr) : Prop where
  ga : PySem.W.findIn K (.ref C) "__getattribute__" = some (some (.builtin "BaseException.__getattribute__"))
  gh : PySem.W.findIn K (.ref C) "__getattr__" = some none
  ca : PySem.W.findIn K (.ref C) "__class__" = some (some (.builtin "object.__class__"))
  be : PySem.W.mroIn K C (.type "BaseException") = some true
  ob : PySem.W.mroIn K C (.type "object") = some true
  cl : (PySem.W.clsIn K C).isSome = true

section
variable {prog : Program} {w : World} {A : Around} {E : Value → Shared → Prop} {h : Heap} {g : Array GenState} {d : Drawn} {t : Nat} {os : OsState} {K : PySem.W.Frag} {a C : Addr} {o : Obj}
theorem looks_ty {M : Model} (hx : h.get? a = some o) (hc : o.cls = .ref C) : Looks M h (typeOf (.ref a)) (.ref C) := by
  intro A Q E s k q
  unfold typeOf
  refine wpAny_bind (wpAny_loadPart (k _ _ hx) ?_)
  rw [hc]
  exact wpAny_pure q
theorem xc_get {R : Result → Shared → Prop} (kin : K.In h) (x : ExcI K C) (hx : h.get? a = some o) (hc : o.cls = .ref C) (hq : R (.ok (.ret (.ref C))) ⟨h, g, d, t, os⟩) :
    codeAny (model prog w) A (.call (.builtin "getset_descriptor.__get__") ⟨[.builtin "object.__class__", .ref a, .ref C], []⟩) R ⟨h, g, d, t, os⟩ := by
  have L0 := looks_ty (M := model prog w) hx hc
  have ho : PySem.W.mroIn K C (.type (".".intercalate ("object.__class__".cutAt '.').dropLast)) = some true := by
    rw [F.owner_object_class]
    exact x.ob
  have L1 := looks_mroIn (M := model prog w) kin ho
  have hT5 : (⟨h, g, d, t, os⟩ : Shared).TypeIs (.builtin "object.__class__") "getset_descriptor" := F.typeOf_object_class
  refine codeAny_call_builtin F.slot_gs_get.plain F.entry_gs_get (F.slot_gs_get.check _ _ _ _ _ _ _ _ hT5 (F.args_gs_get _ _ _) ?_)
  repeat (any_goals (first | assumption | with_reducible refine L0.at ?_ | with_reducible refine L1.at ?_ | wp_step))
  refine ⟨Code.quiet_builtin _ (by decide +kernel), codeAny_builtin F.entry_object_class ?_⟩
  repeat (any_goals (first | assumption | with_reducible refine L0.at ?_ | wp_step))
theorem xc_check {M : Model} {nameV : Value} {Q : Unit → Shared → Prop} (kin : K.In h) (x : ExcI K C) (hx : h.get? a = some o) (hc : o.cls = .ref C) (hq : Q () ⟨h, g, d, t, os⟩) :
    wpAny M A (checkBuiltinCall "BaseException.__getattribute__" ⟨[.ref a, nameV], []⟩) Q E ⟨h, g, d, t, os⟩ := by
  have hk : builtinKind "BaseException.__getattribute__" = some .slot := by decide +kernel
  have hsplit : splitId "BaseException.__getattribute__" = some ("BaseException", "__getattribute__") := by decide +kernel
  have L0 := looks_ty (M := M) hx hc
  have L1 := looks_mroIn (M := M) kin x.be
  have ha := F.args_bexc_ga (.ref a) nameV
  simp only [checkBuiltinCall, hk, hsplit]
  refine wpAny_bind ?_
  unfold isInstance
  refine wpAny_bind (L0.at (L1.at ?_))
  repeat wp_step
  exact hq
theorem xc_entry {tk : Tok} {Q : Fin → Shared → Prop} (kin : K.In h) (x : ExcI K C) (hx : h.get? a = some o) (hc : o.cls = .ref C) (hq : Q (.done (.ret (.ref C))) ⟨h, g, d, t, os⟩) :
    wpAny (model prog w) A (Builtin.«object.__getattribute__» ⟨[.ref a, .str "__class__" tk], []⟩) Q E ⟨h, g, d, t, os⟩ := by
  have L0 := looks_ty (M := model prog w) hx hc
  have L1 := looks_findIn (M := model prog w) kin x.ca
  have f5 := F.typeOf_object_class
  have f6 := F.slot_gs_get.lookup
  have f7 := F.slot_gs_set.lookup
  repeat (any_goals (first | assumption | with_reducible refine L0.at ?_ | with_reducible refine L1.at ?_ | wp_step))
  refine xc_get kin x hx hc ?_
  repeat (any_goals (first | assumption | wp_step))
theorem xc_call {tk : Tok} {R : Result → Shared → Prop} (kin : K.In h) (x : ExcI K C) (hx : h.get? a = some o) (hc : o.cls = .ref C) (hq : R (.ok (.ret (.ref C))) ⟨h, g, d, t, os⟩) :
    codeAny (model prog w) A (.call (.builtin "BaseException.__getattribute__") ⟨[.ref a, .str "__class__" tk], []⟩) R ⟨h, g, d, t, os⟩ :=
  codeAny_call_builtin F.excAttr_ValueError.ga.plain F.entry_bexc_ga (xc_check kin x hx hc (xc_entry kin x hx hc hq))
theorem xc_by {tk : Tok} {Q : Value → Shared → Prop} (kin : K.In h) (x : ExcI K C) (hx : h.get? a = some o) (hc : o.cls = .ref C) (hq : Q (.ref C) ⟨h, g, d, t, os⟩) :
    wpAny (model prog w) A (getAttrBy (.ref a) (.str "__class__" tk) false) Q E ⟨h, g, d, t, os⟩ := by
  have L0 := looks_ty (M := model prog w) hx hc
  have L1 := looks_findIn (M := model prog w) kin x.ga
  have L2 := looks_findIn (M := model prog w) kin x.gh
  have f3 := F.excAttr_ValueError.ga.bind (.ref a)
  have hx2 : (Value.builtin "BaseException.__getattribute__" == Value.builtin "object.__getattribute__") = false := by decide +kernel
  have hx1 : (onTheHeap (Value.ref C) && Value.builtin "BaseException.__getattribute__" == Value.builtin "object.__getattribute__") = false := by rw [hx2]; rfl
  repeat (any_goals (first | assumption | with_reducible refine L0.at ?_ | with_reducible refine L1.at ?_ | with_reducible refine L2.at ?_ | wp_step))
  refine xc_call kin x hx hc ?_
  repeat (any_goals (first | assumption | wp_step))
theorem xc_attr {Q : Option Value → Shared → Prop} (kin : K.In h) (x : ExcI K C) (hx : h.get? a = some o) (hc : o.cls = .ref C) (hq : Q (some (.ref C)) ⟨h, g, d, t + 1, os⟩) :
    wpAny (model prog w) A (getAttr? (.ref a) "__class__") Q E ⟨h, g, d, t, os⟩ := by
  unfold getAttr? getAttrBy?
  repeat (any_goals (first | assumption | with_reducible apply xc_by kin x hx hc | wp_step))
theorem kitx_exc (x : ExcI K C) (hc : o.cls = .ref C) : KitX K (.ref a) (.ref C) (fun h => h.get? a = some o) where
  ty := fun _ _ _ hx => looks_ty hx hc
  it := fun _ _ kin _ => by
    have z := x.cl
    unfold clsIn at z
    split at z
    · rename_i c' d' cd' sl' look
      intro A' Q' E' s' k q
      unfold isType loadHead
      exact wpAny_bind (wpAny_loadPart (k _ _ (kin _ _ look)) (wpAny_pure q))
    · cases z
  ne := fun h tp dd its n sl kin htp => by
    have z := x.cl
    refine Bool.eq_false_iff.mpr fun q => ?_
    have e : C = tp := Value.ref.inj (beq_iff_eq.mp q)
    subst e
    unfold clsIn at z
    split at z
    · rename_i c' d' cd' sl' look
      have y := (kin _ _ look).symm.trans htp
      cases y
    · cases z
  ca := fun {_ _ _ _ _ s} kin hx q => by
    obtain ⟨h0, g0, d0, t0, os0⟩ := s
    exact xc_attr kin x hx hc q
end
section
variable {X : Cx}
/-- isinstance(e, c): e the exception that is handled, c a class, own or built in -/
theorem call_isiX {a C : Addr} {ob : Obj} {x : ExcI X.K C} (hp : (a, ob) ∈ X.pn) (hc : ob.cls = .ref C) :
    CallR X (.builtin "isinstance") (fun xs H Q => ∃ y c b, xs = [.ref a, y] ∧ (y = .ref c ∧ PySem.W.kitOne X.K (.ref C) (.ref c) = some b ∨ ∃ n, y = .ty n ∧ PySem.W.kitOne X.K (.ref C) (.type n) = some b) ∧ Q (.bl b) H) := by
  intro pins s σ H xs us Q I r h
  obtain ⟨y, c, b, rfl, e, q⟩ := h
  obtain ⟨u, v, rfl, ru, rv⟩ := vals2 r
  cases (show u = Value.ref a from ru)
  have ha : s.heap.get? a = some ob := (I.pin (a, ob) (List.mem_append_left _ hp)).1
  rcases e with ⟨rfl, e⟩ | ⟨n, rfl, e⟩
  · cases (show v = Value.ref c from rv)
    exact kia_one (kitx_exc x hc) I.kIn ha e (fun z => nomatch z) fun tk => (c_EEAA (.bl b) H (I.tok tk) rfl q)
  · cases (show v = Value.type n from rv)
    exact kia_one (kitx_exc x hc) I.kIn ha e (fun z => nomatch z) fun tk => (c_EEAA (.bl b) H (I.tok tk) rfl q)
end
end L2
set_option maxHeartbeats 4000000
/-! A text with a number in it; a new dict; defs that may raise. -/
namespace L2
open PySem PySem.Spec PyProof.Rows

section
variable {X : Cx} {pos p1 p2 p3 : Pos} {e : Expr} {te : TE} {a b : Str}
/-- a text, a number, a text -/
def tF3 (te : TE) : TE := fun σ H Q => te σ H fun x H1 => ∃ i : Int, x = .int i ∧ i.natAbs.log2 < 1920 ∧ ∀ z, Q (.str z) H1
theorem len_app (x y : Str) : (x ++ y).length = x.length + y.length := strLen_append x y
theorem pe_f3 {j1 j3} (he : PE X e te) (ha : a.length ≤ 1000) (hb : b.length ≤ 1000) :
    PE X (.JoinedStr [.Constant (.str a) j1 p1, .FormattedValue e (-1) none p2, .Constant (.str b) j3 p3] pos) (tF3 te) := by
  intro pins s σ H Q I h
  refine JoinedStr_many (joinParts_cons (Calls.Constant_str ?_))
  have hz : (Str.empty ++ a).length ≤ 1000 := by
    rw [len_app]
    show 0 + a.length ≤ 1000
    omega
  refine ⟨Nat.le_trans hz (by decide), joinParts_cons (FormattedValue_plain (thn (he pins _ σ H _ (I.tok _) h) fun u s1 q => ?_))⟩
  obtain ⟨x, H1, I1, r, i, rfl, hl, q⟩ := q
  obtain ⟨t, rfl⟩ := r
  refine formatField_int_small hl ?_
  have hi : (Str.ofString (toString i)).length ≤ 2000 := by
    have := int_text_length_le (by decide : 0 < 1920) hl
    have e : (Str.ofString (toString i)).length = (toString i).length := PySem.ofString_length _
    omega
  have hz2 : (Str.empty ++ a ++ Str.ofString (toString i)).length ≤ 3000 := by
    rw [len_app]
    omega
  refine ⟨Nat.le_trans hz2 (by decide), joinParts_cons (Calls.Constant_str ?_)⟩
  have hz3 : (Str.empty ++ a ++ Str.ofString (toString i) ++ b).length ≤ 4000 := by
    rw [len_app]
    omega
  refine ⟨Nat.le_trans hz3 (by decide), joinParts_nil ?_ (Nat.le_trans hz3 (by decide))⟩
  exact (c_EEAA (.str _) H1 (((I1.tok _).tok _).tok _) ⟨_, rfl⟩ (q _))
theorem Inv.bigg {pins : List (Addr × Obj)} {σ : St} {H : Hp} {s : Shared} (I : Inv X pins σ H s) : sysModules < s.heap.objs.size :=
  Nat.lt_trans (by decide : sysModules < mainGlobals) (I.mod.glob.keeps I.bk).lt
def tD0 : TE := fun _ H Q => ∀ p, H p = none → Q (.ref p) (upd H p (.dK []))
theorem pe_d0 : PE X (.Dict [] [] pos) tD0 := by
  intro pins s σ H Q I h
  have hf : H s.heap.objs.size = none := I.hok.fresh (Nat.le_refl _)
  have ok : ObjOk X.prog X.w (upd H s.heap.objs.size (.dK [])) (s.heap.push { cls := .type "dict", data := .dict #[] }) s.heap.objs.size (.dK []) :=
    (c_AAEA (Nat.zero_le _) (beq_eq_false_iff_ne.mpr (Nat.ne_of_gt I.bigg)) ([]) (.nil) (Heap.DictOf.new s.heap))
  exact wpAny_Dict_empty (c_EEAA (.ref s.heap.objs.size) _ (I.laid (t' := s.toks) (fun _ _ z => Heap.get?_push_of_some _ z) (Nat.le_refl _) ok) rfl (h _ hf))
end

/-! ### defs that may raise -/
section
variable {P : Program} {w : World} {K : PySem.W.Frag} {mg : Str → Option Value} {base : Heap}
theorem Fun.okX {x qual : Str} {st : Stmt} {f : Addr} {fd : FuncData} {N ps : List Str} {k : Nat} {sp : Sp} (F : Fun K x qual st f fd) (S : FnScope N ps (defScope st)) (len : ∀ vs H Q E, sp vs H Q E → vs.length = ps.length)
    (hbody : ∀ (cdv : Value) (A : Around) (outer : List Env) (s : Shared) (H : Hp) (vs : List V) (Q : VK) (E : XK), Room k (A.deeper (envOfC qual (defScope st) s.heap.objs.size f cdv)) → sp vs H Q E →
      ∃ t, PSs (cxOf (CXr P w) P w K mg base N qual (defScope st) f cdv A outer s H E) (defBody st) t ∧ t { nx := fun _ H' => Q .non H', rt := Q } (start N vs) H) : FnOk P w K mg base (CXr P w) (k + 1) f fd ps sp := by
  obtain ⟨oc, od, kV, doc, pm, an, cdv, ct, osl, rfl, lk, hcd⟩ := F.ex
  exact fn_of lk hcd S len fun A outer s H vs Q E hr hsp => hbody cdv A outer s H vs Q E hr hsp
end

/-! ### argument lists without a star, by their heads alone -/
def nst : Expr → Bool
  | .Starred .. => false
  | _ => true
theorem st_cons {e : Expr} {es : List Expr} {env : Env} (h : nst e = true) : starEach (e :: es) env = (false, eval e env) :: starEach es env := by
  cases e <;> first | rfl | cases h
theorem st_any {env : Env} {pos : Pos} : ∀ {es : List Expr}, es.all nst = true → (backTo pos (starEach es env)).any (·.1) = false
  | [], _ => rfl
  | e :: es, h => by
    rw [List.all_cons, Bool.and_eq_true] at h
    rw [st_cons h.1]
    show (false || (backTo pos (starEach es env)).any (·.1)) = false
    rw [st_any h.2]
    rfl
section
variable {X : Cx} {CX : CXT} {k : Nat} {f C : Addr} {fd : FuncData} {ps : List Str} {sp : Sp} {dvs : List V} {ds : List Value} {E : XK} {x : Str} {p pos np cpos : Pos} {e : Expr} {es : List Expr} {te : TE} {t : TA} {id T : String} {r : List V → Hp → VK → Prop}
theorem pa_c (ha : PE X e te) (hr : PA X es t) (hn : nst e = true := by rfl) : PA X (e :: es) (tCons te t) := pa_cons ha hr (st_cons hn)
theorem pe_callC (F : FnOk X.prog X.w X.K X.mg X.base CX k f fd ps sp) (hr : Room k X.A) (hg : Gl X x) (hm : X.mg x = some (.ref f)) (hk : PySem.W.keepIn X.K (.ref f) = true) (hb : Binds X.K fd ps ds) (hd : Vals dvs ds) (hx : Passes CX X E)
    (ha : PA X (e :: es) t) (hdb : (x == ("__debug__" : Str)) = false := by decide) (hn : nst e = true := by rfl) (hns : es.all nst = true := by rfl) : PE X (.Call (.Name x p) (e :: es) [] pos) (tCall sp dvs E t) :=
  pe_call F hr hg hm hk hb hd hx ha hdb (st_cons hn) (st_any hns)
theorem pe_callBC (hc : CallR X (.builtin id) r) (hg : Gl X x) (hm : X.mg x = none) (hv : bootBuiltins x = some (.builtin id)) (ha : PA X (e :: es) t) (hn : x ≠ "__name__" := by decide) (hdb : (x == ("__debug__" : Str)) = false := by decide)
    (hn1 : nst e = true := by rfl) (hns : es.all nst = true := by rfl) : PE X (.Call (.Name x p) (e :: es) [] pos) (tCB r t) := pe_callB hc hg hm hv ha hn hdb (st_cons hn1) (st_any hns)
theorem ps_raiseC (hR : RaisesTo X E) (hc : X.calm = true) (hg : Gl X x) (c : ExcC X.K X.mg x C) (ha : PA X (e :: es) t) (hdb : (x == ("__debug__" : Str)) = false := by decide) (hn : nst e = true := by rfl) (hns : es.all nst = true := by rfl) :
    PS X (.Raise (some (.Call (.Name x np) (e :: es) [] cpos)) none pos) (tRaise C E t) := ps_raise hR hc hg c ha hdb (st_cons hn) (st_any hns)
end
end L2
set_option maxHeartbeats 4000000
/-! New objects by their facts alone: the heap behind one stands as a letter. -/
namespace L2
open PySem PySem.Spec PyProof.Rows
theorem samed {H : Hp} {p : Addr} (h : H p = none) (o : HO) : Same H (upd H p o) := fun b u q => by rw [upd_ne (ne_of_none q h)]; exact q
/-- a new object o: what is wanted of its address and of any heap that has it beside all else -/
def NewO (H : Hp) (o : HO) (Q : VK) : Prop := ∀ p H2, Same H H2 → H2 p = some o → H p = none → Q (.ref p) H2
theorem NewO.at {H : Hp} {o : HO} {Q : VK} (h : NewO H o Q) {p : Addr} (hp : H p = none) : Q (.ref p) (upd H p o) := h p _ (samed hp o) upd_same hp
section
variable {X : Cx} {e : Expr} {es : List Expr} {te : TE} {t : TA} {pos : Pos}
def tTupW (t : TA) : TE := fun σ H Q => t σ H fun xs H1 => xs.length ≤ sizeLine ∧ NewO H1 (.tup xs) Q
def tLstW (t : TA) : TE := fun σ H Q => t σ H fun xs H1 => xs.length ≤ sizeLine ∧ NewO H1 (.lst xs) Q
theorem pe_tupW {x1} (h : PA X es t) : PE X (.Tuple es x1 pos) (tTupW t) := by
  intro pins s σ H Q I hq
  refine wpAny_Tuple_spliced (thn (h pos pins s σ H _ I hq) fun us s1 ⟨xs, H1, I1, r, z, q⟩ => ⟨by rw [← r.length]; exact z, ?_⟩)
  have hf : H1 s1.heap.objs.size = none := I1.hok.fresh (Nat.le_refl _)
  exact (c_EEAA (.ref s1.heap.objs.size) (upd H1 s1.heap.objs.size (.tup xs)) (I1.laid (t' := s1.toks) (fun b u e => Heap.get?_push_of_some _ e) (Nat.le_refl _) (c_AEA z us r (c_EAAE _ (Heap.get?_push_size _ rfl) rfl _ rfl))) rfl (q.at hf))
theorem pe_lstW (h : PA X es t) : PE X (.List es pos) (tLstW t) := by
  intro pins s σ H Q I hq
  refine wpAny_List_spliced (thn (h pos pins s σ H _ I hq) fun us s1 ⟨xs, H1, I1, r, z, q⟩ => ⟨by rw [← r.length]; exact z, ?_⟩)
  have hf : H1 s1.heap.objs.size = none := I1.hok.fresh (Nat.le_refl _)
  exact (c_EEAA (.ref s1.heap.objs.size) (upd H1 s1.heap.objs.size (.lst xs)) (I1.laid (t' := s1.toks) (fun b u e => Heap.get?_push_of_some _ e) (Nat.le_refl _) (c_AEEA z us 0 r (Heap.get?_push_size _ rfl))) rfl (q.at hf))
theorem OpR.mono {f : Value → Value → Sem Value} {r r' : R2} (h : OpR X f r) (i : ∀ x y H Q, r' x y H Q → r x y H Q) : OpR X f r' := fun pins s σ H x y v u Q I rx ry q => h pins s σ H x y v u Q I rx ry (i x y H Q q)
def rCatW : R2 := fun x y H Q => ∃ l b xs zs, x = .ref l ∧ y = .ref b ∧ H l = some (.lst xs) ∧ H b = some (.lst zs) ∧ xs.length + zs.length ≤ sizeLine ∧ NewO H (.lst (xs ++ zs)) Q
theorem op_catW : OpR X (binaryOp .Add) rCatW := op_cat.mono fun x y H Q ⟨l, b, xs, zs, h1, h2, h3, h4, h5, h6⟩ => (c_EEEEAAAAA l b xs zs h1 h2 h3 h4 h5 (fun p hp => h6.at hp))
def rRepW : R2 := fun x y H Q => ∃ l k xs, x = .ref l ∧ y = .int k ∧ H l = some (.lst xs) ∧ -(2 ^ 63) ≤ k ∧ k < 2 ^ 63 ∧ xs.length * k.toNat ≤ sizeLine ∧ NewO H (.lst (List.replicate k.toNat xs).flatten) Q
theorem op_repW : OpR X (binaryOp .Mult) rRepW := op_rep.mono fun x y H Q ⟨l, k, xs, h1, h2, h3, h4, h5, h6, h7⟩ => (c_EEEAAAAAA l k xs h1 h2 h3 h4 h5 h6 (fun p hp => h7.at hp))
def rSlW (K : PySem.W.Frag) : V → Option Int → Option Int → Hp → VK → Prop := fun x lo hi H Q => ∃ a xs, x = .ref a ∧ SqL K H a xs ∧ NewO H (.lst (cutV xs lo hi)) Q
theorem SlR.mono {r r' : V → Option Int → Option Int → Hp → VK → Prop} (h : SlR X r) (i : ∀ x lo hi H Q, r' x lo hi H Q → r x lo hi H Q) : SlR X r' := fun pins s σ H x v vl vu lo hi sl Q I rx hs pl pu q => h pins s σ H x v vl vu lo hi sl Q I rx hs pl pu (i _ _ _ _ _ q)
theorem sl_listW : SlR X (rSlW X.K) := sl_list.mono fun x lo hi H Q ⟨a, xs, h1, h2, h3⟩ => (c_EEAA a xs h1 h2 (fun p hp => h3.at hp))
def tD0W : TE := fun _ H Q => NewO H (.dK []) Q
theorem pe_d0W : PE X (.Dict [] [] pos) tD0W := fun pins s σ H Q I h => pe_d0 pins s σ H Q I fun p hp => h.at hp
end
end L2
/-! The mathematics of the store, over plain lists of numbers. -/
namespace Gs
abbrev Row := List Int
def net (r : Row) : Int := r.getD 0 0 - r.getD 1 0
def tot (rs : List Row) : Int := (rs.map net).sum
def gainOn (d r : Row) : Int := d.getD 2 0 * r.getD 1 0 - d.getD 0 0 * r.getD 0 0
def gain (ds rs : List Row) : Int := (List.zipWith gainOn ds rs).sum
def badAt (room : Int) (d r : Row) (b : Int) : Bool := (decide (r.getD 0 0 > d.getD 1 0) || decide (r.getD 1 0 > d.getD 3 0)) || (decide (b < 0) || decide (b > room))
/-- n numbers, 0 or more -/
def Good (n : Nat) (r : Row) : Prop := r.length = n ∧ ∀ k ∈ r, 0 ≤ k
theorem Good.two {r : Row} (h : Good 2 r) : ∃ a b, r = [a, b] ∧ 0 ≤ a ∧ 0 ≤ b := by
  obtain ⟨hl, hn⟩ := h
  match r, hl with
  | [a, b], _ => exact ⟨a, b, rfl, hn a (by simp), hn b (by simp)⟩
theorem Good.four {r : Row} (h : Good 4 r) : ∃ a b c d, r = [a, b, c, d] ∧ 0 ≤ a ∧ 0 ≤ b ∧ 0 ≤ c ∧ 0 ≤ d := by
  obtain ⟨hl, hn⟩ := h
  match r, hl with
  | [a, b, c, d], _ => exact ⟨a, b, c, d, rfl, hn a (by simp), hn b (by simp), hn c (by simp), hn d (by simp)⟩

/-- a dealing that can be, from b stored on -/
def CanA (room b : Int) : List Row → List Row → Prop
  | [], [] => True
  | d :: ds, r :: rs => Good 2 r ∧ r.getD 0 0 ≤ d.getD 1 0 ∧ r.getD 1 0 ≤ d.getD 3 0 ∧ 0 ≤ b + net r ∧ b + net r ≤ room ∧ CanA room (b + net r) ds rs
  | _, _ => False
def Can (room : Int) (ds rs : List Row) : Prop := CanA room 0 ds rs
def dayBound (d : Row) (w : Int) : Int := max 0 (d.getD 1 0 * (w - d.getD 0 0)) + max 0 (d.getD 3 0 * (d.getD 2 0 - w))
/-- what the days behind one of the worth v gain at the most -/
def boundA (room v : Int) : List Row → List Int → Int
  | d :: ds, w :: ws => dayBound d w + max 0 (room * (w - v)) + boundA room w ds ws
  | _, _ => 0
def bound (room : Int) : List Row → List Int → Int
  | d :: ds, w :: ws => dayBound d w + boundA room w ds ws
  | _, _ => 0


/-! ### by more room -/
def slopeA (v : Int) : List Row → List Int → Int
  | _ :: ds, w :: ws => max 0 (w - v) + slopeA w ds ws
  | _, _ => 0
def slope : List Row → List Int → Int
  | _ :: ds, w :: ws => slopeA w ds ws
  | _, _ => 0
/-- a dealing and worths as promised -/
structure IsBest (room : Int) (ds rs : List Row) (ws : List Int) : Prop where
  can : Can room ds rs
  len : ws.length = ds.length
  nn : ∀ w ∈ ws, 0 ≤ w
  eq : gain ds rs = bound room ds ws
/-- the most gain -/
def Most (room : Int) (ds : List Row) (g : Int) : Prop := ∃ rs ws, IsBest room ds rs ws ∧ g = gain ds rs

/-! ### no room: each day by itself -/
def eachOn (d : Row) : Int := min (d.getD 1 0) (d.getD 3 0) * max 0 (d.getD 2 0 - d.getD 0 0)
def each (ds : List Row) : Int := (ds.map eachOn).sum
def alone (d : Row) : Row := if d.getD 0 0 < d.getD 2 0 then [min (d.getD 1 0) (d.getD 3 0), min (d.getD 1 0) (d.getD 3 0)] else [0, 0]

/-! ### another day -/
/-- the prices are no worse, the mosts no less -/
def Better (d d' : Row) : Prop := d'.getD 0 0 ≤ d.getD 0 0 ∧ d.getD 1 0 ≤ d'.getD 1 0 ∧ d.getD 2 0 ≤ d'.getD 2 0 ∧ d.getD 3 0 ≤ d'.getD 3 0
/-- with a day of nothing a dealing gains as much on any day in its place -/
def ZeroOr (d d' : Row) : Prop := d' = d ∨ (d = [0, 0, 0, 0] ∧ Good 4 d')
end Gs
/-! All that can be stored night by night: the table of the most gains, by what is stored. -/
namespace Gs

/-- a gain g by a dealing that can be with left stored behind it -/
def Reach (room : Int) (ds : List Row) (left g : Int) : Prop := ∃ rs, Can room ds rs ∧ tot rs = left ∧ gain ds rs = g

/-- the table behind some days -/
structure Now (room : Nat) (ds : List Row) (now : List (Option Int)) : Prop where
  len : now.length = room + 1
  sound : ∀ (i : Nat) g, now[i]? = some (some g) → Reach room ds i g
  full : ∀ left g, Reach room ds left g → ∃ g', now[left.toNat]? = some (some g') ∧ g ≤ g'
/-- the table of the next day, under way -/
structure Later (room : Nat) (ds : List Row) (d : Row) (now later : List (Option Int)) (Done : Nat → Int → Int → Prop) : Prop where
  len : later.length = room + 1
  sound : ∀ (i : Nat) g, later[i]? = some (some g) → Reach room (ds ++ [d]) i g
  full : ∀ (i : Nat) x y g, Done i x y → now[i]? = some (some g) → 0 ≤ (i : Int) + x - y → (i : Int) + x - y ≤ room → ∃ g', later[((i : Int) + x - y).toNat]? = some (some g') ∧ g + y * d.getD 2 0 - x * d.getD 0 0 ≤ g'
end Gs
set_option maxHeartbeats 4000000
/-! The program's own defs: checks and days. -/
namespace Gs
open PySem PySem.Spec PyProof.Rows L2
def top (i : Nat) : Stmt := PySem.Challenge.pw_grainstore_k06_refused.main.body.getD i (.Pass ⟨0, 0, 0, 0⟩)

/-! ### the mirror -/
def behindA (b : Int) : List Row → List Int
  | [] => []
  | r :: rs => (b + net r) :: behindA (b + net r) rs
def behind (rs : List Row) : List Int := behindA 0 rs
def faultA (room i b : Int) : List Row → List Row → Int
  | d :: ds, r :: rs => if badAt room d r (b + net r) = true then i else faultA room (i + 1) (b + net r) ds rs
  | _, _ => -1
def fault (room : Int) (ds rs : List Row) : Int := faultA room 0 0 ds rs
theorem behindA_length (b : Int) : ∀ rs : List Row, (behindA b rs).length = rs.length
  | [] => rfl
  | r :: rs => by unfold behindA; rw [List.length_cons, List.length_cons, behindA_length _ rs]
theorem tot_cons (r : Row) (rs : List Row) : tot (r :: rs) = net r + tot rs := by unfold tot; rw [List.map_cons, List.sum_cons]
theorem tot_snoc (rs : List Row) (r : Row) : tot (rs ++ [r]) = tot rs + net r := by unfold tot; rw [List.map_append, List.sum_append]; simp
theorem behindA_snoc (r : Row) : ∀ (rs : List Row) (b : Int), behindA b (rs ++ [r]) = behindA b rs ++ [b + tot rs + net r]
  | [], b => by show [b + net r] = [] ++ [b + tot [] + net r]; simp [tot]
  | x :: rs, b => by
    show (b + net x) :: behindA (b + net x) (rs ++ [r]) = ((b + net x) :: behindA (b + net x) rs) ++ [b + tot (x :: rs) + net r]
    rw [behindA_snoc r rs, tot_cons, List.cons_append]
    congr 3
    omega
theorem behindA_get {i : Nat} {r : Row} : ∀ {rs : List Row} {b : Int}, rs[i]? = some r → (behindA b rs)[i]? = some (b + tot (rs.take i) + net r) := by
  induction i with
  | zero =>
    intro rs b h
    cases rs with
    | nil => cases h
    | cons x rs =>
      cases h
      show some (b + net r) = some (b + tot [] + net r)
      simp [tot]
  | succ i ih =>
    intro rs b h
    cases rs with
    | nil => cases h
    | cons x rs =>
      show (behindA (b + net x) rs)[i]? = _
      rw [ih (by simpa using h), List.take_succ_cons, tot_cons]
      congr 1
      omega
theorem take_snoc {α : Type} {xs : List α} {i : Nat} {x : α} (h : xs[i]? = some x) : xs.take (i + 1) = xs.take i ++ [x] := by
  rw [List.take_succ, h]; rfl
/-- one turn of a search for the first fault -/
theorem fault_step {room i b : Int} {ds rs : List Row} {k : Nat} {d r : Row} (hd : ds[k]? = some d) (hr : rs[k]? = some r) :
    faultA room i b (ds.drop k) (rs.drop k) = if badAt room d r (b + net r) = true then i else faultA room (i + 1) (b + net r) (ds.drop (k + 1)) (rs.drop (k + 1)) := by
  have h1 := (List.getElem?_eq_some_iff.mp hd)
  have h2 := (List.getElem?_eq_some_iff.mp hr)
  obtain ⟨l1, e1⟩ := h1
  obtain ⟨l2, e2⟩ := h2
  rw [List.drop_eq_getElem_cons l1, List.drop_eq_getElem_cons l2, e1, e2]
  rfl
theorem fault_end {room i b : Int} {ds rs : List Row} {k : Nat} (h : rs.length ≤ k) : faultA room i b (ds.drop k) (rs.drop k) = -1 := by
  rw [List.drop_eq_nil_of_le h]
  cases ds.drop k <;> rfl

/-! ### tuples of numbers, lists of them -/
def TupAt (H : Hp) (v : V) (r : Row) : Prop := ∃ t, v = .ref t ∧ H t = some (.tup (r.map V.int))
def RowsV (H : Hp) (vs : List V) (rows : List Row) : Prop := vs.length = rows.length ∧ ∀ (i : Nat) v r, vs[i]? = some v → rows[i]? = some r → TupAt H v r
def RowsAt (H : Hp) (a : Addr) (rows : List Row) : Prop := ∃ vs, H a = some (.lst vs) ∧ RowsV H vs rows
theorem TupAt.mono {H H' : Hp} {v : V} {r : Row} (e : Same H H') (h : TupAt H v r) : TupAt H' v r := by
  obtain ⟨t, h1, h2⟩ := h
  exact (c_EA t h1 (e _ _ h2))
theorem RowsV.mono {H H' : Hp} {vs : List V} {rows : List Row} (e : Same H H') (h : RowsV H vs rows) : RowsV H' vs rows := ⟨h.1, fun i v r h1 h2 => (h.2 i v r h1 h2).mono e⟩
theorem RowsAt.mono {H H' : Hp} {a : Addr} {rows : List Row} (e : Same H H') (h : RowsAt H a rows) : RowsAt H' a rows := by
  obtain ⟨vs, h1, h2⟩ := h
  exact (c_EA vs (e _ _ h1) (h2.mono e))
theorem RowsV.row {H : Hp} {vs : List V} {rows : List Row} (h : RowsV H vs rows) {i : Nat} {v : V} (hv : vs[i]? = some v) : ∃ r, rows[i]? = some r ∧ TupAt H v r := by
  have hi := (List.getElem?_eq_some_iff.mp hv).1
  have hi' : i < rows.length := by rw [← h.1]; exact hi
  exact (c_EA (rows[i]) (by simp [hi']) (h.2 i v _ hv (by simp [hi'])))
theorem RowsV.val {H : Hp} {vs : List V} {rows : List Row} (h : RowsV H vs rows) {i : Nat} {r : Row} (hr : rows[i]? = some r) : ∃ v, vs[i]? = some v ∧ TupAt H v r := by
  have hi := (List.getElem?_eq_some_iff.mp hr).1
  have hi' : i < vs.length := by rw [h.1]; exact hi
  exact (c_EA (vs[i]) (by simp [hi']) (h.2 i _ r (by simp [hi']) hr))
theorem Good.all {n : Nat} {r : Row} (h : Good n r) : (decide ((r.length : Int) = (n : Int)) && r.all fun k => decide (0 ≤ k)) = true := by
  rw [Bool.and_eq_true, decide_eq_true_iff, List.all_eq_true]
  refine ⟨by rw [h.1], fun k hk => decide_eq_true (h.2 k hk)⟩

/-! ### what the text's top has written -/
structure Txt (mg : Str → Option Value) : Prop where
  n_len : mg "len" = none
  n_isinstance : mg "isinstance" = none
  n_int : mg "int" = none
  n_bool : mg "bool" = none
  n_tuple : mg "tuple" = none
  n_list : mg "list" = none
  n_all : mg "all" = none
  n_sum : mg "sum" = none
  n_zip : mg "zip" = none
  n_enumerate : mg "enumerate" = none
  n_range : mg "range" = none
  n_min : mg "min" = none
  n_max : mg "max" = none
  g_BUY_PRICE : ∃ t, mg "BUY_PRICE" = some (.int 0 t)
  g_BUY_MOST : ∃ t, mg "BUY_MOST" = some (.int 1 t)
  g_SELL_PRICE : ∃ t, mg "SELL_PRICE" = some (.int 2 t)
  g_SELL_MOST : ∃ t, mg "SELL_MOST" = some (.int 3 t)
  g_BOUGHT : ∃ t, mg "BOUGHT" = some (.int 0 t)
  g_SOLD : ∃ t, mg "SOLD" = some (.int 1 t)
/-- a def of the text, ready to be called -/
structure Def (K : PySem.W.Frag) (mg : Str → Option Value) (x : Str) (ps : List Str) (f : Addr) (fd : FuncData) : Prop where
  m : mg x = some (.ref f)
  k : PySem.W.keepIn K (.ref f) = true
  b : Binds K fd ps []

/-! ### the promises -/
def sp_amount : Sp := fun vs H Q _ => ∃ n : Int, vs = [.int n] ∧ Q (.bl (decide (0 ≤ n))) H
def sp_tuple : Sp := fun vs H Q _ => ∃ (t : Addr) (ns : Row) (c : Int), vs = [.ref t, .int c] ∧ H t = some (.tup (ns.map V.int)) ∧ ns.length ≤ 1000 ∧ ∀ H', Same H H' → Q (.bl (decide ((ns.length : Int) = c) && ns.all fun n => decide (0 ≤ n))) H'
def sp_row (c : Int) : Sp := fun vs H Q _ => ∃ (t : Addr) (ns : Row), vs = [.ref t] ∧ H t = some (.tup (ns.map V.int)) ∧ ns.length ≤ 1000 ∧ ∀ H', Same H H' → Q (.bl (decide ((ns.length : Int) = c) && ns.all fun n => decide (0 ≤ n))) H'
def sp_check_days : Sp := fun vs H Q _ => ∃ (a : Addr) (ds : List Row), vs = [.ref a] ∧ RowsAt H a ds ∧ (∀ d ∈ ds, Good 4 d) ∧ ∀ H', Same H H' → Q .non H'
def sp_check_room : Sp := fun vs H Q _ => ∃ n : Int, vs = [.int n] ∧ 0 ≤ n ∧ Q .non H
def sp_check_dealing : Sp := fun vs H Q _ => ∃ (a b : Addr) (ds rs : List Row), vs = [.ref a, .ref b] ∧ RowsAt H a ds ∧ RowsAt H b rs ∧ rs.length = ds.length ∧ (∀ r ∈ rs, Good 2 r) ∧ ∀ H', Same H H' → Q .non H'
def sp_behind : Sp := fun vs H Q _ => ∃ (b : Addr) (rs : List Row), vs = [.ref b] ∧ RowsAt H b rs ∧ (∀ r ∈ rs, Good 2 r) ∧ rs.length ≤ 1000 ∧ ∀ p H', H p = none → Same H H' → H' p = some (.lst ((behind rs).map V.int)) → Q (.ref p) H'
def small (r : Row) : Prop := ∀ k ∈ r, k < 2 ^ 900
def sp_gained_on : Sp := fun vs H Q _ => ∃ (t u : Addr) (d r : Row), vs = [.ref t, .ref u] ∧ H t = some (.tup (d.map V.int)) ∧ H u = some (.tup (r.map V.int)) ∧ Good 4 d ∧ Good 2 r ∧ small d ∧ small r ∧ Q (.int (gainOn d r)) H
def sp_beyond : Sp := fun vs H Q _ => ∃ (t u : Addr) (d r : Row), vs = [.ref t, .ref u] ∧ H t = some (.tup (d.map V.int)) ∧ H u = some (.tup (r.map V.int)) ∧ Good 4 d ∧ Good 2 r ∧ Q (.bl (decide (r.getD 0 0 > d.getD 1 0) || decide (r.getD 1 0 > d.getD 3 0))) H
def sp_stored : Sp := fun vs H Q _ => ∃ (a b : Addr) (ds rs : List Row), vs = [.ref a, .ref b] ∧ RowsAt H a ds ∧ RowsAt H b rs ∧ rs.length = ds.length ∧ (∀ d ∈ ds, Good 4 d) ∧ (∀ r ∈ rs, Good 2 r) ∧ rs.length ≤ 1000 ∧
  ∀ p H', H p = none → Same H H' → H' p = some (.lst ((behind rs).map V.int)) → Q (.ref p) H'
def sp_gained : Sp := fun vs H Q _ => ∃ (a b : Addr) (ds rs : List Row), vs = [.ref a, .ref b] ∧ RowsAt H a ds ∧ RowsAt H b rs ∧ rs.length = ds.length ∧ (∀ d ∈ ds, Good 4 d) ∧ (∀ r ∈ rs, Good 2 r) ∧ (∀ d ∈ ds, small d) ∧ (∀ r ∈ rs, small r) ∧ rs.length ≤ 1000 ∧
  ∀ H', Same H H' → Q (.int (gain ds rs)) H'
def sp_barred : Sp := fun vs H Q _ => ∃ (a b : Addr) (room : Int) (ds rs : List Row), vs = [.ref a, .int room, .ref b] ∧ RowsAt H a ds ∧ RowsAt H b rs ∧ rs.length = ds.length ∧ (∀ d ∈ ds, Good 4 d) ∧ (∀ r ∈ rs, Good 2 r) ∧ 0 ≤ room ∧ rs.length ≤ 1000 ∧
  ∀ H', Same H H' → Q (.int (fault room ds rs)) H'

section
variable {P : Program} {w : World} {K : PySem.W.Frag} {mg : Str → Option Value} {base : Heap} {f : Addr} {fd : FuncData}
theorem small1 {n : Nat} (h : n ≤ 1000) : n ≤ sizeLine := Nat.le_of_lt (small1000 h)

abbrev s_is_amount : Stmt := top 8
theorem sc_is_amount : FnScope ["value"] ["value"] (defScope s_is_amount) := ⟨rfl, rfl, rfl, by decide +kernel, rfl, by decide +kernel, by decide +kernel⟩
theorem ok_is_amount (F : Fun K "is_amount" "is_amount" s_is_amount f fd) (T : Txt mg) : FnOk P w K mg base CX0 1 f fd ["value"] sp_amount := by
  refine F.ok sc_is_amount (fun vs H Q E h => ?_) (fun cdv A outer s H vs Q E hr h => ?_)
  · obtain ⟨n, rfl, _⟩ := h
    rfl
  · obtain ⟨n, rfl, q⟩ := h
    refine (c_EA _ (pss_one (ps_ret (pe_and (pe_callB call_isi rfl T.n_isinstance boot_isinstance (pa_cons (pv 0) (pa_cons (pe_bltn (v := .ty "int") rfl T.n_int boot_int rfl) pa_nil))) (pe_and (pe_not (pe_callB call_isi rfl T.n_isinstance boot_isinstance (pa_cons (pv 0) (pa_cons (pe_bltn (v := .ty "bool") rfl T.n_bool boot_bool rfl) pa_nil)))) (pe_one (pe_cmpR op_ge (pv 0) pe_int (nomark _))))))) ?_)
    refine (c_EA _ rfl (c_EEEEAAAEA _ _ _ _ rfl (.int n) kit_ii true rfl (iteT ?_)))
    refine (c_EA _ rfl (c_EEEEAAAEAEA _ _ _ _ rfl (.int n) kit_ib false rfl true rfl (iteT ?_)))
    exact (c_EA _ rfl (c_EEAA _ _ rfl rfl q))

abbrev s_is_tuple_of_amounts : Stmt := top 9
theorem sc_is_tuple_of_amounts : FnScope ["value", "count"] ["value", "count"] (defScope s_is_tuple_of_amounts) := ⟨rfl, rfl, rfl, by decide +kernel, rfl, by decide +kernel, by decide +kernel⟩
theorem ok_is_tuple_of_amounts {f1 : Addr} {fd1 : FuncData} (F : Fun K "is_tuple_of_amounts" "is_tuple_of_amounts" s_is_tuple_of_amounts f fd) (T : Txt mg) (D1 : Def K mg "is_amount" ["value"] f1 fd1) (G1 : FnOk P w K mg base CX0 1 f1 fd1 ["value"] sp_amount) :
    FnOk P w K mg base CX0 2 f fd ["value", "count"] sp_tuple := by
  refine F.ok sc_is_tuple_of_amounts (fun vs H Q E h => ?_) (fun cdv A outer s H vs Q E hr h => ?_)
  · obtain ⟨t, ns, c, rfl, _⟩ := h
    rfl
  · obtain ⟨t, ns, c, rfl, ht, hlen, q⟩ := h
    refine (c_EA _ (pss_one (ps_ret (pe_and (pe_callB call_isi rfl T.n_isinstance boot_isinstance (pa_cons (pv 0) (pa_cons (pe_bltn (v := .ty "tuple") rfl T.n_tuple boot_tuple rfl) pa_nil))) (pe_and (pe_cmpR op_eq (pe_callB call_len_seq rfl T.n_len boot_len (pa_cons (pv 0) pa_nil)) (pv 1) (nomark _)) (pe_one (pe_callB (call_all1 rfl) rfl T.n_all boot_all (pa_cons (pe_comp (NF := ["value", "count"]) (scF := defScope s_is_tuple_of_amounts) (nOwn := 1) (NC := ["part"]) (ix := []) rfl rfl rfl ⟨rfl, by decide +kernel, by decide +kernel, by decide +kernel, by decide +kernel, rfl⟩ (pi_tup (pv 0)) (fun _ _ _ _ => (pg_name (i := 0) (show List.Nodup (["part"] : List Str) by decide +kernel) rfl (Or.inl rfl) (by exact Or.inr rfl))) (fun _ _ _ _ => pf_nil) (fun _ _ _ _ => (pe_call G1 hr rfl D1.m D1.k D1.b .nil pass0 (pa_cons (pv 0) pa_nil)))) pa_nil))))))) ?_)
    refine (c_EA _ rfl (c_EEEEAAAEA _ _ _ _ rfl (.tup ht) kit_tt true rfl (iteT ?_)))
    refine (c_EA _ rfl (c_EEAA t _ rfl (.inr (SqT.of ht)) (c_EA _ rfl (c_AEA rfl _ rfl (ite2 (fun hc => ?_) (fun hc => ?_))))))
    · have hc' : ((ns.length : Nat) : Int) = c := by
        have := of_decide_eq_true hc
        rw [List.length_map] at this
        injection this
      refine (c_EAEAA _ rfl t rfl ⟨_, SqT.of ht⟩ (comp_cnt (cnt_tup (xs := ns.map V.int)) (fun i ys H2 => Same H H2 ∧ ys = (ns.take i).map fun n => V.bl (decide (0 ≤ n))) ⟨Same.refl H, rfl⟩ ?_ ?_ ?_))
      · rintro i ys H2 hi ⟨s2, e⟩
        refine ⟨s2.tup (SqT.of ht), ?_⟩
        rw [e, List.length_map, List.length_take]
        exact small1 (by omega)
      · rintro i x ys H2 H3 hi ⟨s2, e⟩ ⟨rfl, hx⟩
        rw [List.length_map] at hi
        have ex : x = V.int ns[i] := by
          rw [List.getElem?_map, List.getElem?_eq_getElem hi] at hx
          exact (Option.some.inj hx).symm
        subst ex
        refine ⟨⟨rfl, rfl⟩, ?_⟩
        refine (c_EA _ rfl (c_EAA (ns[i]) rfl s2 ?_))
        rw [take_snoc (List.getElem?_eq_getElem hi), List.map_append, e]
        rfl
      · rintro ys H2 ⟨s2, e⟩ p hp
        refine (c_EEAA p (ns.map fun n => decide (0 ≤ n)) rfl (SqL.of ?_) ?_)
        · rw [upd_same, e, List.length_map, List.take_length, List.map_map]
          rfl
        · have := q (upd H2 p (.lst ys)) (s2.trans (same_new hp _))
          rw [decide_eq_true hc', Bool.true_and] at this
          rw [List.all_map]
          exact this
    · have hc' : ¬ ((ns.length : Nat) : Int) = c := by
        intro z
        apply hc
        rw [List.length_map, z]
        exact decide_eq_true rfl
      have e : decide (V.int (((ns.map V.int).length : Nat) : Int) = V.int c) = false := Bool.eq_false_iff.mpr hc
      have := q H (Same.refl H)
      rw [decide_eq_false hc', Bool.false_and] at this
      exact this

abbrev s_is_day : Stmt := top 10
theorem sc_is_day : FnScope ["value"] ["value"] (defScope s_is_day) := ⟨rfl, rfl, rfl, by decide +kernel, rfl, by decide +kernel, by decide +kernel⟩
theorem ok_is_day {f1 : Addr} {fd1 : FuncData} (F : Fun K "is_day" "is_day" s_is_day f fd) (D1 : Def K mg "is_tuple_of_amounts" ["value", "count"] f1 fd1) (G1 : FnOk P w K mg base CX0 2 f1 fd1 ["value", "count"] sp_tuple) :
    FnOk P w K mg base CX0 3 f fd ["value"] (sp_row 4) := by
  refine F.ok sc_is_day (fun vs H Q E h => ?_) (fun cdv A outer s H vs Q E hr h => ?_)
  · obtain ⟨t, ns, rfl, _⟩ := h
    rfl
  · obtain ⟨t, ns, rfl, ht, hlen, q⟩ := h
    refine (c_EA _ (pss_one (ps_ret (pe_call G1 hr rfl D1.m D1.k D1.b .nil pass0 (pa_cons (pv 0) (pa_cons pe_int pa_nil))))) ?_)
    exact (c_EA _ rfl (c_EEEAAA t ns 4 rfl ht hlen q))
abbrev s_is_deed : Stmt := top 11
theorem sc_is_deed : FnScope ["value"] ["value"] (defScope s_is_deed) := ⟨rfl, rfl, rfl, by decide +kernel, rfl, by decide +kernel, by decide +kernel⟩
theorem ok_is_deed {f1 : Addr} {fd1 : FuncData} (F : Fun K "is_deed" "is_deed" s_is_deed f fd) (D1 : Def K mg "is_tuple_of_amounts" ["value", "count"] f1 fd1) (G1 : FnOk P w K mg base CX0 2 f1 fd1 ["value", "count"] sp_tuple) :
    FnOk P w K mg base CX0 3 f fd ["value"] (sp_row 2) := by
  refine F.ok sc_is_deed (fun vs H Q E h => ?_) (fun cdv A outer s H vs Q E hr h => ?_)
  · obtain ⟨t, ns, rfl, _⟩ := h
    rfl
  · obtain ⟨t, ns, rfl, ht, hlen, q⟩ := h
    refine (c_EA _ (pss_one (ps_ret (pe_call G1 hr rfl D1.m D1.k D1.b .nil pass0 (pa_cons (pv 0) (pa_cons pe_int pa_nil))))) ?_)
    exact (c_EA _ rfl (c_EEEAAA t ns 2 rfl ht hlen q))

abbrev s_check_days : Stmt := top 12
theorem sc_check_days : FnScope ["days", "at", "day"] ["days"] (defScope s_check_days) := ⟨rfl, rfl, rfl, by decide +kernel, rfl, by decide +kernel, by decide +kernel⟩
theorem ok_check_days {f1 : Addr} {fd1 : FuncData} (F : Fun K "check_days" "check_days" s_check_days f fd) (T : Txt mg) (D1 : Def K mg "is_day" ["value"] f1 fd1) (G1 : FnOk P w K mg base CX0 3 f1 fd1 ["value"] (sp_row 4)) :
    FnOk P w K mg base CX0 4 f fd ["days"] sp_check_days := by
  refine F.ok sc_check_days (fun vs H Q E h => ?_) (fun cdv A outer s H vs Q E hr h => ?_)
  · obtain ⟨a, ds, rfl, _⟩ := h
    rfl
  · obtain ⟨a, ds, rfl, ⟨vs, ha, hv⟩, hg, q⟩ := h
    refine (c_EA _ (pss_cons (ps_if (pt_not (pt_val (pe_callB call_isi rfl T.n_isinstance boot_isinstance (pa_cons (pv 0) (pa_cons (pe_bltn (v := .ty "list") rfl T.n_list boot_list rfl) pa_nil)))))
      pss_never
      pss_nil)
    (pss_one (ps_for PassesOwn.never rfl (pi_enum rfl T.n_enumerate (pa_cons (pv 0) pa_nil)) (pg_tup (n := 2) rfl (pgs_cons (pg_name (i := 1) sc_check_days.nd rfl (Or.inl rfl)) (pgs_cons (pg_name (i := 2) sc_check_days.nd rfl (Or.inl rfl)) pgs_nil)))
      (pss_one (ps_if (pt_not (pt_val (pe_call G1 hr rfl D1.m D1.k D1.b .nil pass0 (pa_cons (pv 2) pa_nil))))
        pss_never
        pss_nil))))) ?_)
    refine (c_EA _ rfl (c_EEEEAAAEA _ _ _ _ rfl (.lst ha) kit_ll true rfl (iteF ?_)))
    refine (c_EA _ rfl (c_EAA a rfl ⟨vs, SqL.of ha⟩ (for_cnt (cnt_enum (xs := vs)) (fun i σ H2 => Same H H2 ∧ ∃ o1 o2, σ = [some (.ref a), o1, o2]) (c_AEE (Same.refl H) _ _ rfl) (fun i σ H2 _ p => SqL.of (p.1 _ _ ha)) ?_ (fun σ H2 p => q H2 p.1))))
    rintro i x σ H2 H3 hi ⟨s2, o1, o2, rfl⟩ ⟨T', y, hy, hT, rfl, rfl⟩
    have s3 : Same H2 (upd H2 T' (.tup [.int i, y])) := same_new hT _
    refine (c_EEAAA T' _ rfl (SqT.of upd_same) rfl (c_EEA _ _ rfl (c_EEA _ _ rfl ⟨rfl, ?_⟩)))
    obtain ⟨d, hd, t, rfl, ht⟩ := hv.row hy
    have gd := hg d (List.mem_of_getElem? hd)
    refine (c_EA _ rfl (c_EEAAA t d rfl (s3 _ _ (s2 _ _ ht)) (by rw [gd.1]; decide) (fun H4 s4 => (c_EA _ rfl ?_))))
    rw [show (decide ((d.length : Int) = (4 : Int)) && d.all fun k => decide (0 ≤ k)) = true from gd.all]
    exact iteF (c_AEE (s2.trans (s3.trans s4)) _ _ rfl)

abbrev s_check_room : Stmt := top 14
theorem sc_check_room : FnScope ["room"] ["room"] (defScope s_check_room) := ⟨rfl, rfl, rfl, by decide +kernel, rfl, by decide +kernel, by decide +kernel⟩
theorem ok_check_room {f1 : Addr} {fd1 : FuncData} (F : Fun K "check_room" "check_room" s_check_room f fd) (D1 : Def K mg "is_amount" ["value"] f1 fd1) (G1 : FnOk P w K mg base CX0 1 f1 fd1 ["value"] sp_amount) :
    FnOk P w K mg base CX0 2 f fd ["room"] sp_check_room := by
  refine F.ok sc_check_room (fun vs H Q E h => ?_) (fun cdv A outer s H vs Q E hr h => ?_)
  · obtain ⟨n, rfl, _⟩ := h
    rfl
  · obtain ⟨n, rfl, hn, q⟩ := h
    refine (c_EA _ (pss_one (ps_if (pt_not (pt_val (pe_call G1 hr rfl D1.m D1.k D1.b .nil pass0 (pa_cons (pv 0) pa_nil))))
      pss_never
      pss_nil)) ?_)
    exact (c_EA _ rfl (c_EAEA n rfl _ rfl (iteNS hn q)))

abbrev s_check_dealing : Stmt := top 16
theorem sc_check_dealing : FnScope ["days", "dealing", "at", "deed"] ["days", "dealing"] (defScope s_check_dealing) := ⟨rfl, rfl, rfl, by decide +kernel, rfl, by decide +kernel, by decide +kernel⟩
theorem ok_check_dealing {f1 : Addr} {fd1 : FuncData} (F : Fun K "check_dealing" "check_dealing" s_check_dealing f fd) (T : Txt mg) (D1 : Def K mg "is_deed" ["value"] f1 fd1) (G1 : FnOk P w K mg base CX0 3 f1 fd1 ["value"] (sp_row 2)) :
    FnOk P w K mg base CX0 4 f fd ["days", "dealing"] sp_check_dealing := by
  refine F.ok sc_check_dealing (fun vs H Q E h => ?_) (fun cdv A outer s H vs Q E hr h => ?_)
  · obtain ⟨a, b, ds, rs, rfl, _⟩ := h
    rfl
  · obtain ⟨a, b, ds, rs, rfl, ⟨us, ha, hu⟩, ⟨vs, hb, hv⟩, hl, hg, q⟩ := h
    refine (c_EA _ (pss_cons (ps_if (pt_not (pt_val (pe_callB call_isi rfl T.n_isinstance boot_isinstance (pa_cons (pv 1) (pa_cons (pe_bltn (v := .ty "list") rfl T.n_list boot_list rfl) pa_nil)))))
      pss_never
      pss_nil)
    (pss_cons (ps_if (pt_cmpR op_ne (pe_callB call_len_seq rfl T.n_len boot_len (pa_cons (pv 1) pa_nil)) (pe_callB call_len_seq rfl T.n_len boot_len (pa_cons (pv 0) pa_nil)) (nomark _))
      pss_never
      pss_nil)
    (pss_one (ps_for PassesOwn.never rfl (pi_enum rfl T.n_enumerate (pa_cons (pv 1) pa_nil)) (pg_tup (n := 2) rfl (pgs_cons (pg_name (i := 2) sc_check_dealing.nd rfl (Or.inl rfl)) (pgs_cons (pg_name (i := 3) sc_check_dealing.nd rfl (Or.inl rfl)) pgs_nil)))
      (pss_one (ps_if (pt_not (pt_val (pe_call G1 hr rfl D1.m D1.k D1.b .nil pass0 (pa_cons (pv 3) pa_nil))))
        pss_never
        pss_nil)))))) ?_)
    refine (c_EA _ rfl (c_EEEEAAAEA _ _ _ _ rfl (.lst hb) kit_ll true rfl (iteF ?_)))
    have hvu : vs.length = us.length := by rw [hv.1, hu.1]; exact hl
    refine (c_EA _ rfl (c_EEAA b _ rfl (.inl (SqL.of hb)) (c_EA _ rfl (c_EEAA a _ rfl (.inl (SqL.of ha)) (c_AEA rfl _ rfl ?_)))))
    rw [hvu]
    refine iteNS rfl ?_
    refine (c_EA _ rfl (c_EAA b rfl ⟨vs, SqL.of hb⟩ (for_cnt (cnt_enum (xs := vs)) (fun i σ H2 => Same H H2 ∧ ∃ o1 o2, σ = [some (.ref a), some (.ref b), o1, o2]) (c_AEE (Same.refl H) _ _ rfl) (fun i σ H2 _ p => SqL.of (p.1 _ _ hb)) ?_ (fun σ H2 p => q H2 p.1))))
    rintro i x σ H2 H3 hi ⟨s2, o1, o2, rfl⟩ ⟨T', y, hy, hT, rfl, rfl⟩
    have s3 : Same H2 (upd H2 T' (.tup [.int i, y])) := same_new hT _
    refine (c_EEAAA T' _ rfl (SqT.of upd_same) rfl (c_EEA _ _ rfl (c_EEA _ _ rfl ⟨rfl, ?_⟩)))
    obtain ⟨d, hd, t, rfl, ht⟩ := hv.row hy
    have gd := hg d (List.mem_of_getElem? hd)
    refine (c_EA _ rfl (c_EEAAA t d rfl (s3 _ _ (s2 _ _ ht)) (by rw [gd.1]; decide) (fun H4 s4 => (c_EA _ rfl ?_))))
    rw [show (decide ((d.length : Int) = (2 : Int)) && d.all fun k => decide (0 ≤ k)) = true from gd.all]
    exact iteF (c_AEE (s2.trans (s3.trans s4)) _ _ rfl)

abbrev s_stored_behind_each : Stmt := top 27
theorem sc_stored_behind_each : FnScope ["dealing", "bushels", "behind", "deed"] ["dealing"] (defScope s_stored_behind_each) := ⟨rfl, rfl, rfl, by decide +kernel, rfl, by decide +kernel, by decide +kernel⟩
theorem ok_stored_behind_each (F : Fun K "stored_behind_each" "stored_behind_each" s_stored_behind_each f fd) (T : Txt mg) : FnOk P w K mg base CX0 1 f fd ["dealing"] sp_behind := by
  obtain ⟨t1, h_BOUGHT⟩ := T.g_BOUGHT
  obtain ⟨t2, h_SOLD⟩ := T.g_SOLD
  refine F.ok sc_stored_behind_each (fun vs H Q E h => ?_) (fun cdv A outer s H vs Q E hr h => ?_)
  · obtain ⟨b, rs, rfl, _⟩ := h
    rfl
  · obtain ⟨b, rs, rfl, ⟨vs, hb, hv⟩, hg, hlen, q⟩ := h
    refine (c_EA _ (pss_cons (ps_set (i := 1) sc_stored_behind_each.nd rfl (Or.inl rfl) pe_int)
    (pss_cons (ps_set (i := 2) sc_stored_behind_each.nd rfl (Or.inl rfl) (pe_lst pa_nil))
    (pss_cons (ps_for PassesOwn.never rfl (pi_list (pv 0)) (pg_name (i := 3) sc_stored_behind_each.nd rfl (Or.inl rfl))
      (pss_cons (ps_aug (i := 1) sc_stored_behind_each.nd rfl (Or.inl rfl) (pe_op op_sub (pe_ix ix_tup (pv 3) (pe_glob (v := .int 0) rfl h_BOUGHT ⟨_, rfl⟩) (fun _ _ => rfl)) (pe_ix ix_tup (pv 3) (pe_glob (v := .int 1) rfl h_SOLD ⟨_, rfl⟩) (fun _ _ => rfl))) ip_add)
      (pss_one (ps_expr (pe_bm PySem.F.plainAttrs_list PySem.F.slot_list_append PySem.F.type_list_append mt_append (pv 2) (pa_cons (pv 1) pa_nil))))))
    (pss_one (ps_ret (pv 2)))))) ?_)
    refine ⟨(by show 0 ≤ sizeLine; decide), fun p hp => ?_⟩
    have s1 : Same H (upd H p (.lst [])) := same_new hp _
    refine (c_EAEAA _ rfl b rfl ⟨vs, SqL.of (s1 _ _ hb)⟩ (for_cnt (cnt_list (xs := vs)) (fun i σ H2 => Same H H2 ∧ H2 p = some (.lst ((behind (rs.take i)).map V.int)) ∧ ∃ o, σ = [some (.ref b), some (.int (tot (rs.take i))), some (.ref p), o])
      (c_AAE s1 upd_same _ rfl) (fun i σ H2 _ pv => SqL.of (pv.1 _ _ hb)) ?_ ?_))
    · rintro i x σ H2 H3 hi ⟨s2, hp2, o, rfl⟩ ⟨rfl, hx⟩
      obtain ⟨r, hr', t, rfl, ht⟩ := hv.row hx
      obtain ⟨u, v, rfl, _, _⟩ := (hg r (List.mem_of_getElem? hr')).two
      have ht2 := s2 _ _ ht
      refine (c_EA _ rfl (c_EA _ rfl (c_EEEEAAAA t _ _ _ rfl rfl (SqT.of ht2) rfl (c_EA _ rfl (c_EEEEAAAA t _ _ _ rfl rfl (SqT.of ht2) rfl (c_EEAA _ _ rfl rfl (c_EEAA _ _ rfl rfl ?_)))))))
      refine (c_EAA _ rfl (.inl (c_AE rfl _ (SqL.of hp2))) (c_EA _ rfl (c_EEEAAAA p _ _ rfl rfl hp2 ?_ ?_)))
      · rw [List.length_map]
        show (behindA 0 (rs.take i)).length < sizeLine
        rw [behindA_length, List.length_take]
        exact small1000 (by omega)
      · have npb : ∀ c o, H c = some o → c ≠ p := fun c o e => ne_of_none e hp
        have e1 : tot (rs.take (i + 1)) = tot (rs.take i) + (u - v) := by
          rw [take_snoc hr', tot_snoc]
          rfl
        refine (c_AAE (fun c o e => by rw [upd_ne (npb c o e)]; exact s2 c o e) ?_ (some (.ref t)) ?_)
        · rw [upd_same]
          unfold behind
          rw [take_snoc hr', behindA_snoc, List.map_append]
          show some (HO.lst _) = some (HO.lst _)
          congr 3
          show [V.int (tot (rs.take i) + (u - v))] = [V.int (0 + tot (rs.take i) + (u - v))]
          rw [Int.zero_add]
        · rw [e1]
          rfl
    · rintro σ H2 ⟨s2, hp2, o, rfl⟩
      refine (c_EA _ rfl (q p H2 hp s2 ?_))
      rw [hv.1, List.take_length] at hp2
      exact hp2

abbrev s_gained_on : Stmt := top 28

abbrev s_goes_beyond_most : Stmt := top 29
theorem sc_goes_beyond_most : FnScope ["day", "deed"] ["day", "deed"] (defScope s_goes_beyond_most) := ⟨rfl, rfl, rfl, by decide +kernel, rfl, by decide +kernel, by decide +kernel⟩
theorem ok_goes_beyond_most (F : Fun K "goes_beyond_most" "goes_beyond_most" s_goes_beyond_most f fd) (T : Txt mg) : FnOk P w K mg base CX0 1 f fd ["day", "deed"] sp_beyond := by
  obtain ⟨t1, h_BOUGHT⟩ := T.g_BOUGHT
  obtain ⟨t2, h_SOLD⟩ := T.g_SOLD
  obtain ⟨t3, h_BUY_MOST⟩ := T.g_BUY_MOST
  obtain ⟨t4, h_SELL_MOST⟩ := T.g_SELL_MOST
  refine F.ok sc_goes_beyond_most (fun vs H Q E h => ?_) (fun cdv A outer s H vs Q E hr h => ?_)
  · obtain ⟨t, u, d, r, rfl, _⟩ := h
    rfl
  · obtain ⟨t, u, d, r, rfl, ht, hu, gd, gr, q⟩ := h
    obtain ⟨d0, d1, d2, d3, rfl, p0, p1, p2, p3⟩ := gd.four
    obtain ⟨r0, r1, rfl, q0, q1⟩ := gr.two
    refine (c_EA _ (pss_one (ps_ret (pe_or (pe_cmpR op_gt (pe_ix ix_tup (pv 1) (pe_glob (v := .int 0) rfl h_BOUGHT ⟨_, rfl⟩) (fun _ _ => rfl)) (pe_ix ix_tup (pv 0) (pe_glob (v := .int 1) rfl h_BUY_MOST ⟨_, rfl⟩) (fun _ _ => rfl)) (nomark _)) (pe_one (pe_cmpR op_gt (pe_ix ix_tup (pv 1) (pe_glob (v := .int 1) rfl h_SOLD ⟨_, rfl⟩) (fun _ _ => rfl)) (pe_ix ix_tup (pv 0) (pe_glob (v := .int 3) rfl h_SELL_MOST ⟨_, rfl⟩) (fun _ _ => rfl)) (nomark _)))))) ?_)
    refine (c_EA _ rfl (c_EEEEAAAA u _ _ _ rfl rfl (SqT.of hu) rfl (c_EA _ rfl (c_EEEEAAAA t _ _ _ rfl rfl (SqT.of ht) rfl (c_EEAAEA _ _ rfl rfl _ rfl ?_)))))
    have q' : Q (.bl (decide (r0 > d1) || decide (r1 > d3))) H := q
    refine ite2 (fun hc => ?_) (fun hc => ?_)
    · rw [show decide (r0 > d1) = true from hc, Bool.true_or] at q'
      exact q'
    · rw [show decide (r0 > d1) = false from Bool.eq_false_iff.mpr hc, Bool.false_or] at q'
      exact (c_EA _ rfl (c_EEEEAAAA u _ _ _ rfl rfl (SqT.of hu) rfl (c_EA _ rfl (c_EEEEAAAA t _ _ _ rfl rfl (SqT.of ht) rfl (c_EEAA _ _ rfl rfl q')))))

abbrev s_stored : Stmt := top 24
theorem sc_stored : FnScope ["days", "dealing"] ["days", "dealing"] (defScope s_stored) := ⟨rfl, rfl, rfl, by decide +kernel, rfl, by decide +kernel, by decide +kernel⟩
theorem ok_stored {f1 f2 f3 : Addr} {fd1 fd2 fd3 : FuncData} (F : Fun K "stored" "stored" s_stored f fd) (D1 : Def K mg "check_days" ["days"] f1 fd1) (G1 : FnOk P w K mg base CX0 4 f1 fd1 ["days"] sp_check_days)
    (D2 : Def K mg "check_dealing" ["days", "dealing"] f2 fd2) (G2 : FnOk P w K mg base CX0 4 f2 fd2 ["days", "dealing"] sp_check_dealing) (D3 : Def K mg "stored_behind_each" ["dealing"] f3 fd3) (G3 : FnOk P w K mg base CX0 1 f3 fd3 ["dealing"] sp_behind) :
    FnOk P w K mg base CX0 5 f fd ["days", "dealing"] sp_stored := by
  have G3' := G3.mono (show 1 ≤ 4 by decide)
  refine F.ok sc_stored (fun vs H Q E h => ?_) (fun cdv A outer s H vs Q E hr h => ?_)
  · obtain ⟨a, b, ds, rs, rfl, _⟩ := h
    rfl
  · obtain ⟨a, b, ds, rs, rfl, ha, hb, hl, gd, gr, hlen, q⟩ := h
    refine (c_EA _ (pss_cons (ps_expr (pe_call G1 hr rfl D1.m D1.k D1.b .nil pass0 (pa_cons (pv 0) pa_nil)))
    (pss_cons (ps_expr (pe_call G2 hr rfl D2.m D2.k D2.b .nil pass0 (pa_cons (pv 0) (pa_cons (pv 1) pa_nil))))
    (pss_one (ps_ret (pe_call G3' hr rfl D3.m D3.k D3.b .nil pass0 (pa_cons (pv 1) pa_nil)))))) ?_)
    refine (c_EA _ rfl (c_EEAAA a ds rfl ha gd (fun H1 s1 => ?_)))
    refine (c_EA _ rfl (c_EA _ rfl (c_EEEEAAAAA a b ds rs rfl (ha.mono s1) (hb.mono s1) hl gr (fun H2 s2 => ?_))))
    refine (c_EA _ rfl (c_EEAAAA b rs rfl (hb.mono (s1.trans s2)) gr hlen (fun p H3 hp s3 e => ?_)))
    exact q p H3 ((s1.trans s2).free hp) (s1.trans (s2.trans s3)) e

abbrev s_gained : Stmt := top 25
theorem sc_gained : FnScope ["days", "dealing"] ["days", "dealing"] (defScope s_gained) := ⟨rfl, rfl, rfl, by decide +kernel, rfl, by decide +kernel, by decide +kernel⟩

abbrev s_barred : Stmt := top 26
theorem sc_barred : FnScope ["days", "room", "dealing", "at", "bushels"] ["days", "room", "dealing"] (defScope s_barred) := ⟨rfl, rfl, rfl, by decide +kernel, rfl, by decide +kernel, by decide +kernel⟩
theorem ok_barred {f1 f2 f3 f4 f5 : Addr} {fd1 fd2 fd3 fd4 fd5 : FuncData} (F : Fun K "barred" "barred" s_barred f fd) (T : Txt mg) (D1 : Def K mg "check_days" ["days"] f1 fd1) (G1 : FnOk P w K mg base CX0 4 f1 fd1 ["days"] sp_check_days)
    (D2 : Def K mg "check_dealing" ["days", "dealing"] f2 fd2) (G2 : FnOk P w K mg base CX0 4 f2 fd2 ["days", "dealing"] sp_check_dealing) (D3 : Def K mg "stored_behind_each" ["dealing"] f3 fd3) (G3 : FnOk P w K mg base CX0 1 f3 fd3 ["dealing"] sp_behind)
    (D4 : Def K mg "check_room" ["room"] f4 fd4) (G4 : FnOk P w K mg base CX0 2 f4 fd4 ["room"] sp_check_room) (D5 : Def K mg "goes_beyond_most" ["day", "deed"] f5 fd5) (G5 : FnOk P w K mg base CX0 1 f5 fd5 ["day", "deed"] sp_beyond) :
    FnOk P w K mg base CX0 5 f fd ["days", "room", "dealing"] sp_barred := by
  have G3' := G3.mono (show 1 ≤ 4 by decide)
  have G4' := G4.mono (show 2 ≤ 4 by decide)
  have G5' := G5.mono (show 1 ≤ 4 by decide)
  refine F.ok sc_barred (fun vs H Q E h => ?_) (fun cdv A outer s H vs Q E hr h => ?_)
  · obtain ⟨a, b, room, ds, rs, rfl, _⟩ := h
    rfl
  · obtain ⟨a, b, room, ds, rs, rfl, ha, hb, hl, gd, gr, hroom, hlen, q⟩ := h
    refine (c_EA _ (pss_cons (ps_expr (pe_call G1 hr rfl D1.m D1.k D1.b .nil pass0 (pa_cons (pv 0) pa_nil)))
    (pss_cons (ps_expr (pe_call G4' hr rfl D4.m D4.k D4.b .nil pass0 (pa_cons (pv 1) pa_nil)))
    (pss_cons (ps_expr (pe_call G2 hr rfl D2.m D2.k D2.b .nil pass0 (pa_cons (pv 0) (pa_cons (pv 2) pa_nil))))
    (pss_cons (ps_for PassesOwn.never rfl (pi_enum rfl T.n_enumerate (pa_cons (pe_call G3' hr rfl D3.m D3.k D3.b .nil pass0 (pa_cons (pv 2) pa_nil)) pa_nil)) (pg_tup (n := 2) rfl (pgs_cons (pg_name (i := 3) sc_barred.nd rfl (Or.inl rfl)) (pgs_cons (pg_name (i := 4) sc_barred.nd rfl (Or.inl rfl)) pgs_nil)))
      (pss_one (ps_if (PW.pt (pw_or (pt_val (pe_call G5' hr rfl D5.m D5.k D5.b .nil pass0 (pa_cons (pe_ix ix_list (pv 0) (pv 3) (fun _ _ => rfl)) (pa_cons (pe_ix ix_list (pv 2) (pv 3) (fun _ _ => rfl)) pa_nil)))) (pw_or (pt_cmpR op_lt (pv 4) pe_int (nomark _)) (pw_or1 (pt_cmpR op_gt (pv 4) (pv 1) (nomark _))))))
        (pss_one (ps_ret (pv 3)))
        pss_nil)))
    (pss_one (ps_ret (pe_un un_neg pe_int))))))) ?_)
    refine (c_EA _ rfl (c_EEAAA a ds rfl ha gd (fun H1 s1 => ?_)))
    refine (c_EA _ rfl (c_EAA room rfl hroom ?_))
    refine (c_EA _ rfl (c_EA _ rfl (c_EEEEAAAAA a b ds rs rfl (ha.mono s1) (hb.mono s1) hl gr (fun H2 s2 => ?_))))
    have s12 := s1.trans s2
    refine (c_EA _ rfl (c_EEAAAA b rs rfl (hb.mono s12) gr hlen (fun p H3 hp s3 hp3 => ?_)))
    have s13 := s12.trans s3
    obtain ⟨us, ha3, hu⟩ := ha.mono s13
    obtain ⟨vs, hb3, hv⟩ := hb.mono s13
    have hbl : ((behind rs).map V.int).length = rs.length := by rw [List.length_map]; exact behindA_length 0 rs
    refine (c_EAA p rfl ⟨_, SqL.of hp3⟩ (for_cnt (cnt_enum (xs := (behind rs).map V.int)) (fun i σ H4 => Same H3 H4 ∧ fault room ds rs = faultA room (i : Int) (tot (rs.take i)) (ds.drop i) (rs.drop i) ∧ ∃ o1 o2, σ = [some (.ref a), some (.int room), some (.ref b), o1, o2])
      (c_AAEE (Same.refl H3) rfl _ _ rfl) (fun i σ H4 _ pv => SqL.of (pv.1 _ _ hp3)) ?_ ?_))
    · rintro i x σ H4 H5 hi ⟨s4, hf, o1, o2, rfl⟩ ⟨T', y, hy, hT, rfl, rfl⟩
      rw [hbl] at hi
      have s5 : Same H4 (upd H4 T' (.tup [.int i, y])) := same_new hT _
      have s35 := s4.trans s5
      have hr' : rs[i]? = some rs[i] := List.getElem?_eq_getElem hi
      have hi2 : i < ds.length := by omega
      have hd' : ds[i]? = some ds[i] := List.getElem?_eq_getElem hi2
      generalize rs[i] = r at hr'
      generalize ds[i] = d at hd'
      have ey : y = V.int (tot (rs.take i) + net r) := by
        rw [List.getElem?_map] at hy
        unfold behind at hy
        rw [behindA_get hr'] at hy
        have := (Option.some.inj hy).symm
        rw [Int.zero_add] at this
        exact this
      subst ey
      rw [fault_step hd' hr'] at hf
      have gdd := gd d (List.mem_of_getElem? hd')
      have grr := gr r (List.mem_of_getElem? hr')
      obtain ⟨v1, hv1, t1, rfl, ht1⟩ := hu.val hd'
      obtain ⟨v2, hv2, t2, rfl, ht2⟩ := hv.val hr'
      refine (c_EEAAA T' _ rfl (SqT.of upd_same) rfl (c_EEA _ _ rfl (c_EEA _ _ rfl ⟨rfl, ?_⟩)))
      refine (c_EA _ rfl (c_EA _ rfl (c_EEEEAAAA a us _ _ rfl rfl (SqL.of (s35 _ _ ha3)) (atI_nat hv1) (c_EA _ rfl (c_EA _ rfl (c_EEEEAAAA b vs _ _ rfl rfl (SqL.of (s35 _ _ hb3)) (atI_nat hv2) (c_EEEEAAAAAEA t1 t2 d r rfl (s35 _ _ ht1) (s35 _ _ ht2) gdd grr _ rfl ?_)))))))
      have fin1 : badAt room d r (tot (rs.take i) + net r) = true → Q (.int (i : Int)) (upd H4 T' (.tup [.int i, .int (tot (rs.take i) + net r)])) := fun hbad => by
        rw [if_pos hbad] at hf
        have := q _ (s13.trans s35)
        rw [hf] at this
        exact this
      unfold badAt at fin1 hf
      refine ite2 (fun h1 => iteT ?_) (fun h1 => ?_)
      · exact (c_EA _ rfl (fin1 (by rw [h1]; rfl)))
      have h1' := Bool.eq_false_iff.mpr h1
      refine (c_EA _ rfl (c_EEAAEA _ _ rfl rfl _ rfl ?_))
      refine ite2 (fun h2 => iteT ?_) (fun h2 => ?_)
      · exact (c_EA _ rfl (fin1 (by rw [h1', h2]; rfl)))
      have h2' := Bool.eq_false_iff.mpr h2
      refine (c_EA _ rfl (c_EA _ rfl (c_EEAAEA _ _ rfl rfl _ rfl ?_)))
      refine ite2 (fun h3 => ?_) (fun h3 => ?_)
      · exact (c_EA _ rfl (fin1 (by rw [h1', h2']; exact h3)))
      have h3' := Bool.eq_false_iff.mpr h3
      refine (c_AAEE s35 ?_ _ _ rfl)
      rw [h1', h2', show decide (tot (rs.take i) + net r > room) = false from h3'] at hf
      rw [hf, take_snoc hr', tot_snoc]
      rfl
    · rintro σ H4 ⟨s4, hf, o1, o2, rfl⟩
      rw [hbl, fault_end (Nat.le_refl _)] at hf
      refine (c_EA _ rfl ?_)
      have := q H4 (s13.trans s4)
      rw [hf] at this
      exact this
end
end Gs
set_option maxHeartbeats 4000000
/-! The checks over values of every kind, with their refusals. -/
namespace Gs
open PySem PySem.Spec PyProof.Rows L2

/-! ### values of the kinds that are handed in -/
def Plain (H : Hp) : V → Prop
  | .non => True
  | .bl _ => True
  | .int _ => True
  | .str _ => True
  | .ref a => (∃ xs, H a = some (.lst xs)) ∨ (∃ xs, H a = some (.tup xs)) ∨ (∃ kvs, H a = some (.dK kvs))
  | _ => False
theorem Plain.mono {H H' : Hp} {v : V} (s : Same H H') (h : Plain H v) : Plain H' v := by
  cases v with
  | ref a =>
    rcases h with ⟨xs, e⟩ | ⟨xs, e⟩ | ⟨kvs, e⟩
    · exact .inl ⟨xs, s _ _ e⟩
    · exact .inr (.inl ⟨xs, s _ _ e⟩)
    · exact .inr (.inr ⟨kvs, s _ _ e⟩)
  | _ => exact h
def isInt : V → Bool
  | .int _ => true
  | .bl _ => true
  | _ => false
def isBool : V → Bool
  | .bl _ => true
  | _ => false
def isTup (H : Hp) : V → Bool
  | .ref a => (match H a with | some (.tup _) => true | _ => false)
  | _ => false
def isLst (H : Hp) : V → Bool
  | .ref a => (match H a with | some (.lst _) => true | _ => false)
  | _ => false
section
variable {K : PySem.W.Frag} {H : Hp} {v : V}
theorem plain_ty (h : Plain H v) : ∃ t, TyOf K H v t ∧ PySem.W.kitOne K t (.type "int") = some (isInt v) ∧ PySem.W.kitOne K t (.type "bool") = some (isBool v) ∧ PySem.W.kitOne K t (.type "tuple") = some (isTup H v) ∧
    PySem.W.kitOne K t (.type "list") = some (isLst H v) := by
  cases v with
  | non => exact (c_EAAAA _ (.non) (by rfl) (by rfl) (by rfl) (by rfl))
  | bl b => exact (c_EAAAA _ (.bl b) (by rfl) (by rfl) (by rfl) (by rfl))
  | int n => exact (c_EAAAA _ (.int n) (by rfl) (by rfl) (by rfl) (by rfl))
  | str x => exact (c_EAAAA _ (.str x) (by rfl) (by rfl) (by rfl) (by rfl))
  | ref a =>
    rcases h with ⟨xs, e⟩ | ⟨xs, e⟩ | ⟨kvs, e⟩ <;> simp only [isTup, isLst, e]
    · exact (c_EAAAA _ (.lst e) (by rfl) (by rfl) (by rfl) (by rfl))
    · exact (c_EAAAA _ (.tup e) (by rfl) (by rfl) (by rfl) (by rfl))
    · exact (c_EAAAA _ (.dK e) (by rfl) (by rfl) (by rfl) (by rfl))
  | byt b => exact h.elim
  | flt b => exact h.elim
  | ty n => exact h.elim
end
/-- a whole number, 0 or more -/
def amt : V → Bool
  | .int n => decide (0 ≤ n)
  | _ => false
/-- a tuple of c of these -/
def rowB (c : Nat) (H : Hp) : V → Bool
  | .ref a => (match H a with | some (.tup xs) => decide (xs.length = c) && xs.all amt | _ => false)
  | _ => false
structure Row1 (H : Hp) (v : V) : Prop where
  pl : Plain H v
  el : ∀ a xs, v = .ref a → H a = some (.tup xs) → xs.length ≤ 1000 ∧ ∀ x ∈ xs, Plain H x
theorem Plain.un {H H' : Hp} {a : Addr} {o : HO} (s : Same H H') (h : Plain H (.ref a)) (e : H' a = some o) : H a = some o := by
  rcases h with ⟨xs, z⟩ | ⟨xs, z⟩ | ⟨kvs, z⟩ <;> (have y := s _ _ z; rw [e] at y; rw [z, y])
theorem Row1.mono {H H' : Hp} {v : V} (s : Same H H') (h : Row1 H v) : Row1 H' v := by
  refine ⟨h.pl.mono s, fun a xs e q => ?_⟩
  subst e
  obtain ⟨h1, h2⟩ := h.el a xs rfl (h.pl.un s q)
  exact ⟨h1, fun x hx => (h2 x hx).mono s⟩
theorem rowB_mono {H H' : Hp} {v : V} {c : Nat} (s : Same H H') (h : Plain H v) : rowB c H' v = rowB c H v := by
  cases v with
  | ref a =>
    rcases h with ⟨xs, z⟩ | ⟨xs, z⟩ | ⟨kvs, z⟩ <;> simp only [rowB, z, s _ _ z]
  | _ => rfl
theorem rowB_at {H : Hp} {a : Addr} {xs : List V} {c : Nat} (h : H a = some (.tup xs)) : rowB c H (.ref a) = (decide (xs.length = c) && xs.all amt) := by simp only [rowB, h]
theorem isTup_at {H : Hp} {v : V} (h : isTup H v = true) : ∃ a xs, v = .ref a ∧ H a = some (.tup xs) := by
  cases v with
  | ref a =>
    simp only [isTup] at h
    split at h
    · rename_i xs e
      exact (c_EEA a xs rfl e)
    · cases h
  | _ => cases h
theorem isTup_no {H : Hp} {v : V} {c : Nat} (h : isTup H v = false) : rowB c H v = false := by
  cases v with
  | ref a =>
    simp only [isTup] at h
    simp only [rowB]
    split
    · rename_i xs e
      rw [e] at h
      cases h
    · rfl
  | _ => rfl
/-- a list of rows -/
def rowsB (c : Nat) (H : Hp) : V → Bool
  | .ref a => (match H a with | some (.lst xs) => xs.all (rowB c H) | _ => false)
  | _ => false
def lenIs (n : Nat) (H : Hp) : V → Bool
  | .ref a => (match H a with | some (.lst xs) => decide (xs.length = n) | _ => false)
  | _ => false
structure Rows1 (H : Hp) (v : V) : Prop where
  pl : Plain H v
  el : ∀ a xs, v = .ref a → H a = some (.lst xs) → xs.length ≤ 1000 ∧ ∀ x ∈ xs, Row1 H x
theorem Rows1.mono {H H' : Hp} {v : V} (s : Same H H') (h : Rows1 H v) : Rows1 H' v := by
  refine ⟨h.pl.mono s, fun a xs e q => ?_⟩
  subst e
  obtain ⟨h1, h2⟩ := h.el a xs rfl (h.pl.un s q)
  exact ⟨h1, fun x hx => (h2 x hx).mono s⟩
theorem all_congr {α : Type} {p q : α → Bool} : ∀ {xs : List α}, (∀ x ∈ xs, p x = q x) → xs.all p = xs.all q
  | [], _ => rfl
  | x :: xs, h => by rw [List.all_cons, List.all_cons, h x (by simp), all_congr fun y hy => h y (by simp [hy])]
theorem rowsB_mono {H H' : Hp} {v : V} {c : Nat} (s : Same H H') (h : Rows1 H v) : rowsB c H' v = rowsB c H v := by
  cases v with
  | ref a =>
    rcases h.pl with ⟨xs, z⟩ | ⟨xs, z⟩ | ⟨kvs, z⟩ <;> simp only [rowsB, z, s _ _ z]
    exact all_congr fun x hx => rowB_mono s ((h.el a xs rfl z).2 x hx).pl
  | _ => rfl
theorem lenIs_mono {H H' : Hp} {v : V} {n : Nat} (s : Same H H') (h : Plain H v) : lenIs n H' v = lenIs n H v := by
  cases v with
  | ref a =>
    rcases h with ⟨xs, z⟩ | ⟨xs, z⟩ | ⟨kvs, z⟩ <;> simp only [lenIs, z, s _ _ z]
  | _ => rfl
theorem rowsB_at {H : Hp} {a : Addr} {xs : List V} {c : Nat} (h : H a = some (.lst xs)) : rowsB c H (.ref a) = xs.all (rowB c H) := by simp only [rowsB, h]
theorem lenIs_at {H : Hp} {a : Addr} {xs : List V} {n : Nat} (h : H a = some (.lst xs)) : lenIs n H (.ref a) = decide (xs.length = n) := by simp only [lenIs, h]
theorem isLst_at {H : Hp} {v : V} (h : isLst H v = true) : ∃ a xs, v = .ref a ∧ H a = some (.lst xs) := by
  cases v with
  | ref a =>
    simp only [isLst] at h
    split at h
    · rename_i xs e
      exact (c_EEA a xs rfl e)
    · cases h
  | _ => cases h
theorem isLst_no {H : Hp} {v : V} {c : Nat} (h : isLst H v = false) : rowsB c H v = false := by
  cases v with
  | ref a =>
    simp only [isLst] at h
    simp only [rowsB]
    split
    · rename_i xs e
      rw [e] at h
      cases h
    · rfl
  | _ => rfl

/-! ### the promises -/
def sx_amount : Sp := fun vs H Q _ => ∃ v, vs = [v] ∧ Plain H v ∧ Q (.bl (amt v)) H
def sx_tuple : Sp := fun vs H Q _ => ∃ v, ∃ c : Nat, vs = [v, .int c] ∧ Row1 H v ∧ ∀ H', Same H H' → Q (.bl (rowB c H v)) H'
def sx_row (c : Nat) : Sp := fun vs H Q _ => ∃ v, vs = [v] ∧ Row1 H v ∧ ∀ H', Same H H' → Q (.bl (rowB c H v)) H'
def sx_days (C : Addr) : Sp := fun vs H Q E => ∃ v, vs = [v] ∧ Rows1 H v ∧ (rowsB 4 H v = true → ∀ H', Same H H' → Q .non H') ∧ (rowsB 4 H v = false → ∀ H', Same H H' → E (.ref C) none H')
def sx_room (C : Addr) : Sp := fun vs H Q E => ∃ v, vs = [v] ∧ Plain H v ∧ (amt v = true → Q .non H) ∧ (amt v = false → E (.ref C) none H)
def sx_dealing (C : Addr) : Sp := fun vs H Q E => ∃ a us v, vs = [.ref a, v] ∧ H a = some (.lst us) ∧ Rows1 H v ∧ ((lenIs us.length H v && rowsB 2 H v) = true → ∀ H', Same H H' → Q .non H') ∧
  ((lenIs us.length H v && rowsB 2 H v) = false → ∀ H', Same H H' → E (.ref C) none H')

section
variable {P : Program} {w : World} {K : PySem.W.Frag} {mg : Str → Option Value} {base : Heap} {f : Addr} {fd : FuncData}
theorem okx_is_amount (F : Fun K "is_amount" "is_amount" s_is_amount f fd) (T : Txt mg) : FnOk P w K mg base CX0 1 f fd ["value"] sx_amount := by
  refine F.ok sc_is_amount (fun vs H Q E h => ?_) (fun cdv A outer s H vs Q E hr h => ?_)
  · obtain ⟨v, rfl, _⟩ := h
    rfl
  · obtain ⟨v, rfl, pl, q⟩ := h
    obtain ⟨t, ty, k1, k2, _, _⟩ := plain_ty (K := K) pl
    refine (c_EA _ (pss_one (ps_ret (pe_and (pe_callBC call_isi rfl T.n_isinstance boot_isinstance (pa_c (pv 0) (pa_c (pe_bltn (v := .ty "int") rfl T.n_int boot_int rfl) pa_nil))) (pe_and (pe_not (pe_callBC call_isi rfl T.n_isinstance boot_isinstance (pa_c (pv 0) (pa_c (pe_bltn (v := .ty "bool") rfl T.n_bool boot_bool rfl) pa_nil)))) (pe_one (pe_cmpR op_ge (pv 0) pe_int (nomark _))))))) ?_)
    refine (c_EA _ rfl (c_EEEEAAAEA _ _ _ _ rfl ty k1 _ rfl ?_))
    cases e : isInt v with
    | false =>
      have ea : amt v = false := by cases v <;> first | rfl | cases e
      rw [ea] at q
      exact iteF q
    | true =>
      refine iteT (c_EA _ rfl (c_EEEEAAAEAEA _ _ _ _ rfl ty k2 _ rfl _ rfl ?_))
      cases v with
      | bl b => exact iteF q
      | int n => exact iteT (c_EA _ rfl (c_EEAA _ _ rfl rfl q))
      | _ => cases e

theorem okx_is_tuple_of_amounts {f1 : Addr} {fd1 : FuncData} (F : Fun K "is_tuple_of_amounts" "is_tuple_of_amounts" s_is_tuple_of_amounts f fd) (T : Txt mg) (D1 : Def K mg "is_amount" ["value"] f1 fd1) (G1 : FnOk P w K mg base CX0 1 f1 fd1 ["value"] sx_amount) :
    FnOk P w K mg base CX0 2 f fd ["value", "count"] sx_tuple := by
  refine F.ok sc_is_tuple_of_amounts (fun vs H Q E h => ?_) (fun cdv A outer s H vs Q E hr h => ?_)
  · obtain ⟨v, c, rfl, _⟩ := h
    rfl
  · obtain ⟨v, c, rfl, r1, q⟩ := h
    obtain ⟨t, ty, _, _, k3, _⟩ := plain_ty (K := K) r1.pl
    refine' (c_EA _ (pss_one (ps_ret (pe_and (pe_callBC call_isi rfl T.n_isinstance boot_isinstance (pa_c (pv 0) (pa_c (pe_bltn (v := .ty "tuple") rfl T.n_tuple boot_tuple rfl) pa_nil))) (pe_and (pe_cmpR op_eq (pe_callBC call_len_seq rfl T.n_len boot_len (pa_c (pv 0) pa_nil)) (pv 1) (nomark _)) (pe_one (pe_callBC (call_all1 rfl) rfl T.n_all boot_all (pa_c ?c1 pa_nil))))))) ?_)
    case c1 => exact pe_comp (NF := ["value", "count"]) (scF := defScope s_is_tuple_of_amounts) (nOwn := 1) (NC := ["part"]) (ix := []) rfl rfl rfl ⟨rfl, by decide +kernel, by decide +kernel, by decide +kernel, by decide +kernel, rfl⟩ (pi_tup (pv 0)) (fun _ _ _ _ => (pg_name (i := 0) (show List.Nodup (["part"] : List Str) by decide +kernel) rfl (Or.inl rfl) (Or.inr rfl))) (fun _ _ _ _ => pf_nil) (fun _ _ _ _ => (pe_callC G1 hr rfl D1.m D1.k D1.b .nil pass0 (pa_c (pv 0) pa_nil)))
    refine (c_EA _ rfl (c_EEEEAAAEA _ _ _ _ rfl ty k3 _ rfl ?_))
    cases e : isTup H v with
    | false =>
      have ea : rowB c H v = false := isTup_no e
      have := q H (Same.refl H)
      rw [ea] at this
      exact iteF this
    | true =>
        obtain ⟨a, xs, rfl, ht⟩ := isTup_at e
        obtain ⟨hl, hp⟩ := r1.el a xs rfl ht
        have eb := rowB_at (c := c) ht
        refine iteT (c_EA _ rfl (c_EEAA a _ rfl (.inr (SqT.of ht)) (c_EA _ rfl (c_AEA rfl _ rfl (ite2 (fun hc => ?_) (fun hc => ?_))))))
        · have hc' : xs.length = c := by
            have := of_decide_eq_true hc
            injection this with this
            omega
          refine (c_EAEAA _ rfl a rfl ⟨_, SqT.of ht⟩ (comp_cnt (cnt_tup (xs := xs)) (fun i ys H2 => Same H H2 ∧ ys = (xs.take i).map fun x => V.bl (amt x)) ⟨Same.refl H, rfl⟩ ?_ ?_ ?_))
          · rintro i ys H2 hi ⟨s2, e⟩
            refine ⟨s2.tup (SqT.of ht), ?_⟩
            rw [e, List.length_map, List.length_take]
            exact small1 (by omega)
          · rintro i x ys H2 H3 hi ⟨s2, e⟩ ⟨rfl, hx⟩
            refine ⟨⟨rfl, rfl⟩, ?_⟩
            refine (c_EA _ rfl (c_EAAA x rfl ((hp x (List.mem_of_getElem? hx)).mono s2) s2 ?_))
            rw [take_snoc hx, List.map_append, e]
            rfl
          · rintro ys H2 ⟨s2, e⟩ p hp2
            refine (c_EEAA p (xs.map amt) rfl (SqL.of ?_) ?_)
            · rw [upd_same, e, List.take_length, List.map_map]
              rfl
            · have := q (upd H2 p (.lst ys)) (s2.trans (same_new hp2 _))
              rw [eb, decide_eq_true hc', Bool.true_and] at this
              rw [List.all_map]
              exact this
        · have hc' : ¬ xs.length = c := by
            intro z
            apply hc
            rw [z]
            exact decide_eq_true rfl
          have e : decide (V.int ((xs.length : Nat) : Int) = V.int c) = false := Bool.eq_false_iff.mpr hc
          have := q H (Same.refl H)
          rw [eb, decide_eq_false hc', Bool.false_and] at this
          exact this

theorem okx_is_day {f1 : Addr} {fd1 : FuncData} (F : Fun K "is_day" "is_day" s_is_day f fd) (D1 : Def K mg "is_tuple_of_amounts" ["value", "count"] f1 fd1) (G1 : FnOk P w K mg base CX0 2 f1 fd1 ["value", "count"] sx_tuple) :
    FnOk P w K mg base CX0 3 f fd ["value"] (sx_row 4) := by
  refine F.ok sc_is_day (fun vs H Q E h => ?_) (fun cdv A outer s H vs Q E hr h => ?_)
  · obtain ⟨v, rfl, _⟩ := h
    rfl
  · obtain ⟨v, rfl, r1, q⟩ := h
    refine (c_EA _ (pss_one (ps_ret (pe_callC G1 hr rfl D1.m D1.k D1.b .nil pass0 (pa_c (pv 0) (pa_c pe_int pa_nil))))) ?_)
    exact (c_EA _ rfl (c_EEAA v 4 rfl r1 q))
theorem okx_is_deed {f1 : Addr} {fd1 : FuncData} (F : Fun K "is_deed" "is_deed" s_is_deed f fd) (D1 : Def K mg "is_tuple_of_amounts" ["value", "count"] f1 fd1) (G1 : FnOk P w K mg base CX0 2 f1 fd1 ["value", "count"] sx_tuple) :
    FnOk P w K mg base CX0 3 f fd ["value"] (sx_row 2) := by
  refine F.ok sc_is_deed (fun vs H Q E h => ?_) (fun cdv A outer s H vs Q E hr h => ?_)
  · obtain ⟨v, rfl, _⟩ := h
    rfl
  · obtain ⟨v, rfl, r1, q⟩ := h
    refine (c_EA _ (pss_one (ps_ret (pe_callC G1 hr rfl D1.m D1.k D1.b .nil pass0 (pa_c (pv 0) (pa_c pe_int pa_nil))))) ?_)
    exact (c_EA _ rfl (c_EEAA v 2 rfl r1 q))

theorem okx_check_days {f1 C : Addr} {fd1 : FuncData} (F : Fun K "check_days" "check_days" s_check_days f fd) (T : Txt mg) (X_BadDays : ExcC K mg "BadDays" C) (D1 : Def K mg "is_day" ["value"] f1 fd1) (G1 : FnOk P w K mg base CX0 3 f1 fd1 ["value"] (sx_row 4)) :
    FnOk P w K mg base (CXr P w) 4 f fd ["days"] (sx_days C) := by
  refine F.okX sc_check_days (fun vs H Q E h => ?_) (fun cdv A outer s H vs Q E hr h => ?_)
  · obtain ⟨v, rfl, _⟩ := h
    rfl
  · obtain ⟨v, rfl, r1, q1, q2⟩ := h
    obtain ⟨t, ty, _, _, _, k4⟩ := plain_ty (K := K) r1.pl
    refine (c_EA _ (pss_cons (ps_if (pt_not (pt_val (pe_callBC call_isi rfl T.n_isinstance boot_isinstance (pa_c (pv 0) (pa_c (pe_bltn (v := .ty "list") rfl T.n_list boot_list rfl) pa_nil)))))
      (pss_one (ps_raiseC raises_cx rfl rfl X_BadDays (pa_c pe_str pa_nil)))
      pss_nil)
    (pss_one (ps_for own_cx rfl (pi_enum rfl T.n_enumerate (pa_c (pv 0) pa_nil)) (pg_tup (n := 2) rfl (pgs_cons (pg_name (i := 1) sc_check_days.nd rfl (Or.inl rfl)) (pgs_cons (pg_name (i := 2) sc_check_days.nd rfl (Or.inl rfl)) pgs_nil)))
      (pss_one (ps_if (pt_not (pt_val (pe_callC G1 hr rfl D1.m D1.k D1.b .nil pass0 (pa_c (pv 2) pa_nil))))
        (pss_one (ps_raiseC raises_cx rfl rfl X_BadDays (pa_c (pe_f3 (pv 1) (by decide) (by decide)) pa_nil)))
        pss_nil))))) ?_)
    refine (c_EA _ rfl (c_EEEEAAAEA _ _ _ _ rfl ty k4 _ rfl ?_))
    cases e : isLst H v with
    | false =>
      have ea : rowsB 4 H v = false := isLst_no e
      exact iteT ⟨by show 1 ≤ sizeLine; decide, q2 ea H (Same.refl H)⟩
    | true =>
        obtain ⟨a, xs, rfl, ha⟩ := isLst_at e
        obtain ⟨hl, hp⟩ := r1.el a xs rfl ha
        have eb := rowsB_at (c := 4) ha
        rw [eb] at q1 q2
        refine iteF (c_EA _ rfl (c_EAA a rfl ⟨xs, SqL.of ha⟩ (for_cnt (cnt_enum (xs := xs)) (fun i σ H2 => Same H H2 ∧ (xs.take i).all (rowB 4 H) = true ∧ ∃ o1 o2, σ = [some (.ref a), o1, o2]) (c_AAEE (Same.refl H) rfl _ _ rfl) (fun i σ H2 _ p => SqL.of (p.1 _ _ ha)) ?_ (fun σ H2 p => ?_))))
        · rintro i x σ H2 H3 hi ⟨s2, hall, o1, o2, rfl⟩ ⟨T', y, hy, hT, rfl, rfl⟩
          have s3 : Same H2 (upd H2 T' (.tup [.int i, y])) := same_new hT _
          refine (c_EEAAA T' _ rfl (SqT.of upd_same) rfl (c_EEA _ _ rfl (c_EEA _ _ rfl ⟨rfl, ?_⟩)))
          have ry := hp y (List.mem_of_getElem? hy)
          refine (c_EA _ rfl (c_EAA y rfl ((ry.mono s2).mono s3) (fun H4 s4 => ?_)))
          rw [rowB_mono (s2.trans s3) ry.pl]
          refine (c_EA _ rfl ?_)
          cases e2 : rowB 4 H y with
          | true =>
            refine iteF (c_AAEE (s2.trans (s3.trans s4)) ?_ _ _ rfl)
            rw [take_snoc hy, List.all_append, hall]
            simp [e2]
          | false =>
            refine iteT (c_EAEAA _ rfl (i : Int) rfl ?_ (fun z => ⟨by show 1 ≤ sizeLine; decide, q2 ?_ H4 (s2.trans (s3.trans s4))⟩))
            · have : (i : Int).natAbs = i := Int.natAbs_natCast i
              rw [this]
              have h1 : i < 2 ^ 1920 := Nat.lt_of_lt_of_le (show i < 1024 by omega) (Nat.pow_le_pow_right (n := 2) (by decide) (show 10 ≤ 1920 by decide))
              by_cases h0 : i = 0
              · subst h0
                decide
              · exact (Nat.log2_lt h0).mpr h1
            · rw [List.all_eq_false]
              exact (c_EA y (List.mem_of_getElem? hy) (by rw [e2]; exact Bool.false_ne_true))
        · obtain ⟨s2, hall, _⟩ := p
          rw [List.take_length] at hall
          exact q1 hall H2 s2

theorem okx_check_room {f1 C : Addr} {fd1 : FuncData} (F : Fun K "check_room" "check_room" s_check_room f fd) (X_BadRoom : ExcC K mg "BadRoom" C) (D1 : Def K mg "is_amount" ["value"] f1 fd1) (G1 : FnOk P w K mg base CX0 1 f1 fd1 ["value"] sx_amount) :
    FnOk P w K mg base (CXr P w) 2 f fd ["room"] (sx_room C) := by
  refine F.okX sc_check_room (fun vs H Q E h => ?_) (fun cdv A outer s H vs Q E hr h => ?_)
  · obtain ⟨v, rfl, _⟩ := h
    rfl
  · obtain ⟨v, rfl, pl, q1, q2⟩ := h
    refine (c_EA _ (pss_one (ps_if (pt_not (pt_val (pe_callC G1 hr rfl D1.m D1.k D1.b .nil pass0 (pa_c (pv 0) pa_nil))))
      (pss_one (ps_raiseC raises_cx rfl rfl X_BadRoom (pa_c pe_str pa_nil)))
      pss_nil)) ?_)
    refine (c_EA _ rfl (c_EAAEA v rfl pl _ rfl ?_))
    cases e : amt v with
    | true => exact iteF (q1 e)
    | false => exact iteT ⟨by show 1 ≤ sizeLine; decide, q2 e⟩
end
end Gs
set_option maxHeartbeats 4000000
/-! More checks, and the doors where they refuse. -/
namespace Gs
open PySem PySem.Spec PyProof.Rows L2
theorem int_log {i : Nat} (h : i < 1024) : (i : Int).natAbs.log2 < 1920 := by
  have e : (i : Int).natAbs = i := Int.natAbs_natCast i
  rw [e]
  by_cases h0 : i = 0
  · subst h0
    decide
  · exact (Nat.log2_lt h0).mpr (Nat.lt_of_lt_of_le h (Nat.pow_le_pow_right (n := 2) (by decide) (show 10 ≤ 1920 by decide)))
section
variable {P : Program} {w : World} {K : PySem.W.Frag} {mg : Str → Option Value} {base : Heap} {f : Addr} {fd : FuncData}
theorem okx_check_dealing {f1 C : Addr} {fd1 : FuncData} (F : Fun K "check_dealing" "check_dealing" s_check_dealing f fd) (T : Txt mg) (X_BadDealing : ExcC K mg "BadDealing" C) (D1 : Def K mg "is_deed" ["value"] f1 fd1) (G1 : FnOk P w K mg base CX0 3 f1 fd1 ["value"] (sx_row 2)) :
    FnOk P w K mg base (CXr P w) 4 f fd ["days", "dealing"] (sx_dealing C) := by
  refine F.okX sc_check_dealing (fun vs H Q E h => ?_) (fun cdv A outer s H vs Q E hr h => ?_)
  · obtain ⟨a, us, v, rfl, _⟩ := h
    rfl
  · obtain ⟨a, us, v, rfl, ha, r1, q1, q2⟩ := h
    obtain ⟨t, ty, _, _, _, k4⟩ := plain_ty (K := K) r1.pl
    refine (c_EA _ (pss_cons (ps_if (pt_not (pt_val (pe_callBC call_isi rfl T.n_isinstance boot_isinstance (pa_c (pv 1) (pa_c (pe_bltn (v := .ty "list") rfl T.n_list boot_list rfl) pa_nil)))))
      (pss_one (ps_raiseC raises_cx rfl rfl X_BadDealing (pa_c pe_str pa_nil)))
      pss_nil)
    (pss_cons (ps_if (pt_cmpR op_ne (pe_callBC call_len_seq rfl T.n_len boot_len (pa_c (pv 1) pa_nil)) (pe_callBC call_len_seq rfl T.n_len boot_len (pa_c (pv 0) pa_nil)) (nomark _))
      (pss_one (ps_raiseC raises_cx rfl rfl X_BadDealing (pa_c pe_str pa_nil)))
      pss_nil)
    (pss_one (ps_for own_cx rfl (pi_enum rfl T.n_enumerate (pa_c (pv 1) pa_nil)) (pg_tup (n := 2) rfl (pgs_cons (pg_name (i := 2) sc_check_dealing.nd rfl (Or.inl rfl)) (pgs_cons (pg_name (i := 3) sc_check_dealing.nd rfl (Or.inl rfl)) pgs_nil)))
      (pss_one (ps_if (pt_not (pt_val (pe_callC G1 hr rfl D1.m D1.k D1.b .nil pass0 (pa_c (pv 3) pa_nil))))
        (pss_one (ps_raiseC raises_cx rfl rfl X_BadDealing (pa_c (pe_f3 (pv 2) (by decide) (by decide)) pa_nil)))
        pss_nil)))))) ?_)
    refine (c_EA _ rfl (c_EEEEAAAEA _ _ _ _ rfl ty k4 _ rfl ?_))
    cases e : isLst H v with
    | false =>
      have ea : rowsB 2 H v = false := isLst_no e
      exact iteT ⟨by show 1 ≤ sizeLine; decide, q2 (by rw [ea, Bool.and_false]) H (Same.refl H)⟩
    | true =>
      obtain ⟨b, xs, rfl, hb⟩ := isLst_at e
      obtain ⟨hl, hp⟩ := r1.el b xs rfl hb
      have eb := rowsB_at (c := 2) hb
      have el := lenIs_at (n := us.length) hb
      rw [eb, el] at q1 q2
      refine iteF (c_EA _ rfl (c_EEAA b _ rfl (.inl (SqL.of hb)) (c_EA _ rfl (c_EEAA a _ rfl (.inl (SqL.of ha)) (c_AEA rfl _ rfl ?_)))))
      by_cases hc : xs.length = us.length
      · rw [decide_eq_true hc, Bool.true_and] at q1 q2
        rw [hc]
        refine iteNS rfl ?_
        refine (c_EA _ rfl (c_EAA b rfl ⟨xs, SqL.of hb⟩ (for_cnt (cnt_enum (xs := xs)) (fun i σ H2 => Same H H2 ∧ (xs.take i).all (rowB 2 H) = true ∧ ∃ o1 o2, σ = [some (.ref a), some (.ref b), o1, o2]) (c_AAEE (Same.refl H) rfl _ _ rfl) (fun i σ H2 _ p => SqL.of (p.1 _ _ hb)) ?_ (fun σ H2 p => ?_))))
        · rintro i x σ H2 H3 hi ⟨s2, hall, o1, o2, rfl⟩ ⟨T', y, hy, hT, rfl, rfl⟩
          have s3 : Same H2 (upd H2 T' (.tup [.int i, y])) := same_new hT _
          refine (c_EEAAA T' _ rfl (SqT.of upd_same) rfl (c_EEA _ _ rfl (c_EEA _ _ rfl ⟨rfl, ?_⟩)))
          have ry := hp y (List.mem_of_getElem? hy)
          refine (c_EA _ rfl (c_EAA y rfl ((ry.mono s2).mono s3) (fun H4 s4 => ?_)))
          rw [rowB_mono (s2.trans s3) ry.pl]
          refine (c_EA _ rfl ?_)
          cases e2 : rowB 2 H y with
          | true =>
            refine iteF (c_AAEE (s2.trans (s3.trans s4)) ?_ _ _ rfl)
            rw [take_snoc hy, List.all_append, hall]
            simp [e2]
          | false =>
            refine iteT (c_EAEAA _ rfl (i : Int) rfl (int_log (by omega)) (fun z => ⟨by show 1 ≤ sizeLine; decide, q2 ?_ H4 (s2.trans (s3.trans s4))⟩))
            rw [List.all_eq_false]
            exact (c_EA y (List.mem_of_getElem? hy) (by rw [e2]; exact Bool.false_ne_true))
        · obtain ⟨s2, hall, _⟩ := p
          rw [List.take_length] at hall
          exact q1 hall H2 s2
      · rw [decide_eq_false hc, Bool.false_and] at q2
        have e3 : decide (V.int ((xs.length : Nat) : Int) = V.int ((us.length : Nat) : Int)) = false := by
          refine decide_eq_false fun z => hc ?_
          injection z with z
          omega
        rw [e3]
        exact iteT ⟨by show 1 ≤ sizeLine; decide, q2 rfl H (Same.refl H)⟩

/-! ### where the doors refuse -/
/-- the days are none -/
def Bad1 (CD : Addr) (H : Hp) (E : XK) (v : V) : Prop := rowsB 4 H v = false ∧ ∀ H', Same H H' → E (.ref CD) none H'
/-- the days are days, the room is none -/
def Bad2 (CR : Addr) (H : Hp) (E : XK) (v r : V) : Prop := rowsB 4 H v = true ∧ Plain H r ∧ amt r = false ∧ ∀ H', Same H H' → E (.ref CR) none H'
/-- the dealing is none -/
def BadL (CL : Addr) (H : Hp) (E : XK) (v d : V) : Prop := rowsB 4 H v = true ∧ ∃ a us, v = .ref a ∧ H a = some (.lst us) ∧ Rows1 H d ∧ (lenIs us.length H d && rowsB 2 H d) = false ∧ ∀ H', Same H H' → E (.ref CL) none H'
def sb_two (CD CL : Addr) : Sp := fun vs H Q E => ∃ v d, vs = [v, d] ∧ Rows1 H v ∧ (Bad1 CD H E v ∨ BadL CL H E v d)
def sb_barred (CD CR CL : Addr) : Sp := fun vs H Q E => ∃ v r d, vs = [v, r, d] ∧ Rows1 H v ∧ (Bad1 CD H E v ∨ Bad2 CR H E v r ∨ (Plain H r ∧ amt r = true ∧ BadL CL H E v d))
def sb_best (CD CR : Addr) : Sp := fun vs H Q E => ∃ v r, vs = [v, r] ∧ Rows1 H v ∧ (Bad1 CD H E v ∨ Bad2 CR H E v r)
theorem nott {b : Bool} {p : Prop} (h : b = false) : b = true → p := fun z => by rw [h] at z; cases z
theorem notf {b : Bool} {p : Prop} (h : b = true) : b = false → p := fun z => by rw [h] at z; cases z

abbrev s_best : Stmt := top 50
theorem sc_best : FnScope ["days", "room", "worths"] ["days", "room"] (defScope s_best) := ⟨rfl, rfl, rfl, by decide +kernel, rfl, by decide +kernel, by decide +kernel⟩
abbrev s_most_gain : Stmt := top 51
theorem sc_most_gain : FnScope ["days", "room"] ["days", "room"] (defScope s_most_gain) := ⟨rfl, rfl, rfl, by decide +kernel, rfl, by decide +kernel, by decide +kernel⟩
abbrev s_changed : Stmt := top 52
theorem sc_changed : FnScope ["days", "room", "at", "day", "other_days"] ["days", "room", "at", "day"] (defScope s_changed) := ⟨rfl, rfl, rfl, by decide +kernel, rfl, by decide +kernel, by decide +kernel⟩
abbrev s_check_count : Stmt := top 15
theorem sc_check_count : FnScope ["days", "at"] ["days", "at"] (defScope s_check_count) := ⟨rfl, rfl, rfl, by decide +kernel, rfl, by decide +kernel, by decide +kernel⟩
abbrev s_check_day : Stmt := top 13
theorem sc_check_day : FnScope ["day"] ["day"] (defScope s_check_day) := ⟨rfl, rfl, rfl, by decide +kernel, rfl, by decide +kernel, by decide +kernel⟩
/-- a day's count -/
def cntB (n : Nat) : V → Bool
  | .int i => decide (0 ≤ i) && decide (i < n)
  | _ => false
def sx_count (C : Addr) : Sp := fun vs H Q E => ∃ a us v, vs = [.ref a, v] ∧ H a = some (.lst us) ∧ Plain H v ∧ (cntB us.length v = true → Q .non H) ∧ (cntB us.length v = false → E (.ref C) none H)
def sx_other (C : Addr) : Sp := fun vs H Q E => ∃ v, vs = [v] ∧ Row1 H v ∧ (rowB 4 H v = true → ∀ H', Same H H' → Q .non H') ∧ (rowB 4 H v = false → ∀ H', Same H H' → E (.ref C) none H')
theorem okx_check_count {f1 C : Addr} {fd1 : FuncData} (F : Fun K "check_count" "check_count" s_check_count f fd) (T : Txt mg) (X_BadDay : ExcC K mg "BadDay" C) (D1 : Def K mg "is_amount" ["value"] f1 fd1) (G1 : FnOk P w K mg base CX0 1 f1 fd1 ["value"] sx_amount) :
    FnOk P w K mg base (CXr P w) 2 f fd ["days", "at"] (sx_count C) := by
  refine F.okX sc_check_count (fun vs H Q E h => ?_) (fun cdv A outer s H vs Q E hr h => ?_)
  · obtain ⟨a, us, v, rfl, _⟩ := h
    rfl
  · obtain ⟨a, us, v, rfl, ha, pl, q1, q2⟩ := h
    refine (c_EA _ (pss_one (ps_if (PW.pt (pw_or (pt_not (pt_val (pe_callC G1 hr rfl D1.m D1.k D1.b .nil pass0 (pa_c (pv 1) pa_nil)))) (pw_or1 (pt_cmpR op_ge (pv 1) (pe_callBC call_len_seq rfl T.n_len boot_len (pa_c (pv 0) pa_nil)) (nomark _)))))
      (pss_one (ps_raiseC raises_cx rfl rfl X_BadDay (pa_c pe_str pa_nil)))
      pss_nil)) ?_)
    refine (c_EA _ rfl (c_EAAEA v rfl pl _ rfl ?_))
    cases e : amt v with
    | false =>
      refine iteT (iteT ⟨by show 1 ≤ sizeLine; decide, q2 ?_⟩)
      cases v with
      | int n =>
        have e' : decide (0 ≤ n) = false := e
        show (decide (0 ≤ n) && decide (n < us.length)) = false
        rw [e']
        rfl
      | _ => rfl
    | true =>
      cases v with
      | int n =>
        have e' : decide (0 ≤ n) = true := e
        refine iteF (c_EA _ rfl (c_EA _ rfl (c_EEAA a _ rfl (.inl (SqL.of ha)) (c_EEAAEA _ _ rfl rfl _ rfl (ite2 (fun hc => ?_) (fun hc => ?_))))))
        · refine ⟨by show 1 ≤ sizeLine; decide, q2 ?_⟩
          have hc' := of_decide_eq_true hc
          show (decide (0 ≤ n) && decide (n < us.length)) = false
          rw [show decide (n < (us.length : Int)) = false from decide_eq_false (by omega), Bool.and_false]
        · refine q1 ?_
          show (decide (0 ≤ n) && decide (n < us.length)) = true
          have hc' : ¬ ((us.length : Nat) : Int) ≤ n := fun z => hc (decide_eq_true z)
          rw [e', decide_eq_true (by omega)]
          rfl
      | _ => cases e
theorem okx_check_day {f1 C : Addr} {fd1 : FuncData} (F : Fun K "check_day" "check_day" s_check_day f fd) (X_BadDays : ExcC K mg "BadDays" C) (D1 : Def K mg "is_day" ["value"] f1 fd1) (G1 : FnOk P w K mg base CX0 3 f1 fd1 ["value"] (sx_row 4)) :
    FnOk P w K mg base (CXr P w) 4 f fd ["day"] (sx_other C) := by
  refine F.okX sc_check_day (fun vs H Q E h => ?_) (fun cdv A outer s H vs Q E hr h => ?_)
  · obtain ⟨v, rfl, _⟩ := h
    rfl
  · obtain ⟨v, rfl, r1, q1, q2⟩ := h
    refine (c_EA _ (pss_one (ps_if (pt_not (pt_val (pe_callC G1 hr rfl D1.m D1.k D1.b .nil pass0 (pa_c (pv 0) pa_nil))))
      (pss_one (ps_raiseC raises_cx rfl rfl X_BadDays (pa_c pe_str pa_nil)))
      pss_nil)) ?_)
    refine (c_EA _ rfl (c_EAA v rfl r1 (fun H1 s1 => (c_EA _ rfl ?_))))
    cases e : rowB 4 H v with
    | true => exact iteF (q1 e H1 s1)
    | false => exact iteT ⟨by show 1 ≤ sizeLine; decide, q2 e H1 s1⟩
def BadC (CB : Addr) (H : Hp) (E : XK) (v i : V) : Prop := rowsB 4 H v = true ∧ ∃ a us, v = .ref a ∧ H a = some (.lst us) ∧ Plain H i ∧ cntB us.length i = false ∧ ∀ H', Same H H' → E (.ref CB) none H'
def BadO (CD : Addr) (H : Hp) (E : XK) (v i o : V) : Prop := rowsB 4 H v = true ∧ ∃ a us, v = .ref a ∧ H a = some (.lst us) ∧ Plain H i ∧ cntB us.length i = true ∧ Row1 H o ∧ rowB 4 H o = false ∧ ∀ H', Same H H' → E (.ref CD) none H'
def sb_changed (CD CR CB : Addr) : Sp := fun vs H Q E => ∃ v r i o, vs = [v, r, i, o] ∧ Rows1 H v ∧ (Bad1 CD H E v ∨ Bad2 CR H E v r ∨ (Plain H r ∧ amt r = true ∧ (BadC CB H E v i ∨ BadO CD H E v i o)))
theorem okb_stored {CD CL f1 f2 : Addr} {fd1 fd2 : FuncData} (F : Fun K "stored" "stored" s_stored f fd) (D1 : Def K mg "check_days" ["days"] f1 fd1) (G1 : FnOk P w K mg base (CXr P w) 4 f1 fd1 ["days"] (sx_days CD))
    (D2 : Def K mg "check_dealing" ["days", "dealing"] f2 fd2) (G2 : FnOk P w K mg base (CXr P w) 4 f2 fd2 ["days", "dealing"] (sx_dealing CL)) :
    FnOk P w K mg base (CXr P w) 5 f fd ["days", "dealing"] (sb_two CD CL) := by
  have G2' := G2
  refine F.okX sc_stored (fun vs H Q E h => ?_) (fun cdv A outer s H vs Q E hr h => ?_)
  · obtain ⟨v, d, rfl, _⟩ := h
    rfl
  · obtain ⟨v, d, rfl, r1, h⟩ := h
    refine (c_EA _ (pss_cons (ps_expr (pe_call G1 hr rfl D1.m D1.k D1.b .nil pass_cx (pa_cons (pv 0) pa_nil)))
    (pss_cons (ps_expr (pe_call G2' hr rfl D2.m D2.k D2.b .nil pass_cx (pa_cons (pv 0) (pa_cons (pv 1) pa_nil))))
    pss_never)) ?_)
    rcases h with ⟨e1, q⟩ | ⟨e1, a, us, rfl, ha, r2, e2, q⟩
    · exact (c_EA _ rfl (c_EAAA v rfl r1 (nott e1) (fun _ H1 s1 => q H1 s1)))
    · refine (c_EA _ rfl (c_EAAA _ rfl r1 (fun _ H1 s1 => ?_) (notf e1)))
      exact (c_EA _ rfl (c_EA _ rfl (c_EEEAAAA a us d rfl (s1 _ _ ha) (r2.mono s1) (nott (by rw [lenIs_mono s1 r2.pl, rowsB_mono s1 r2]; exact e2)) (fun _ H2 s2 => q H2 (s1.trans s2)))))

theorem okb_gained {CD CL f1 f2 : Addr} {fd1 fd2 : FuncData} (F : Fun K "gained" "gained" s_gained f fd) (D1 : Def K mg "check_days" ["days"] f1 fd1) (G1 : FnOk P w K mg base (CXr P w) 4 f1 fd1 ["days"] (sx_days CD))
    (D2 : Def K mg "check_dealing" ["days", "dealing"] f2 fd2) (G2 : FnOk P w K mg base (CXr P w) 4 f2 fd2 ["days", "dealing"] (sx_dealing CL)) :
    FnOk P w K mg base (CXr P w) 5 f fd ["days", "dealing"] (sb_two CD CL) := by
  have G2' := G2
  refine F.okX sc_gained (fun vs H Q E h => ?_) (fun cdv A outer s H vs Q E hr h => ?_)
  · obtain ⟨v, d, rfl, _⟩ := h
    rfl
  · obtain ⟨v, d, rfl, r1, h⟩ := h
    refine (c_EA _ (pss_cons (ps_expr (pe_call G1 hr rfl D1.m D1.k D1.b .nil pass_cx (pa_cons (pv 0) pa_nil)))
    (pss_cons (ps_expr (pe_call G2' hr rfl D2.m D2.k D2.b .nil pass_cx (pa_cons (pv 0) (pa_cons (pv 1) pa_nil))))
    pss_never)) ?_)
    rcases h with ⟨e1, q⟩ | ⟨e1, a, us, rfl, ha, r2, e2, q⟩
    · exact (c_EA _ rfl (c_EAAA v rfl r1 (nott e1) (fun _ H1 s1 => q H1 s1)))
    · refine (c_EA _ rfl (c_EAAA _ rfl r1 (fun _ H1 s1 => ?_) (notf e1)))
      exact (c_EA _ rfl (c_EA _ rfl (c_EEEAAAA a us d rfl (s1 _ _ ha) (r2.mono s1) (nott (by rw [lenIs_mono s1 r2.pl, rowsB_mono s1 r2]; exact e2)) (fun _ H2 s2 => q H2 (s1.trans s2)))))

theorem okb_best {CD CR f1 f2 : Addr} {fd1 fd2 : FuncData} (F : Fun K "best" "best" s_best f fd) (D1 : Def K mg "check_days" ["days"] f1 fd1) (G1 : FnOk P w K mg base (CXr P w) 4 f1 fd1 ["days"] (sx_days CD))
    (D2 : Def K mg "check_room" ["room"] f2 fd2) (G2 : FnOk P w K mg base (CXr P w) 2 f2 fd2 ["room"] (sx_room CR)) :
    FnOk P w K mg base (CXr P w) 5 f fd ["days", "room"] (sb_best CD CR) := by
  have G2' := G2.mono (show 2 ≤ 4 by decide)
  refine F.okX sc_best (fun vs H Q E h => ?_) (fun cdv A outer s H vs Q E hr h => ?_)
  · obtain ⟨v, d, rfl, _⟩ := h
    rfl
  · obtain ⟨v, r, rfl, r1, h⟩ := h
    refine (c_EA _ (pss_cons (ps_expr (pe_call G1 hr rfl D1.m D1.k D1.b .nil pass_cx (pa_cons (pv 0) pa_nil)))
    (pss_cons (ps_expr (pe_call G2' hr rfl D2.m D2.k D2.b .nil pass_cx (pa_cons (pv 1) pa_nil)))
    pss_never)) ?_)
    rcases h with ⟨e1, q⟩ | ⟨e1, pr, e2, q⟩
    · exact (c_EA _ rfl (c_EAAA v rfl r1 (nott e1) (fun _ H1 s1 => q H1 s1)))
    · refine (c_EA _ rfl (c_EAAA _ rfl r1 (fun _ H1 s1 => ?_) (notf e1)))
      exact (c_EA _ rfl (c_EAAA r rfl (pr.mono s1) (nott e2) (fun _ => q H1 s1)))

theorem okb_most_gain {CD CR CL f1 f2 : Addr} {fd1 fd2 : FuncData} (F : Fun K "most_gain" "most_gain" s_most_gain f fd) (D1 : Def K mg "gained" ["days", "dealing"] f1 fd1) (G1 : FnOk P w K mg base (CXr P w) 5 f1 fd1 ["days", "dealing"] (sb_two CD CL))
    (D2 : Def K mg "best" ["days", "room"] f2 fd2) (G2 : FnOk P w K mg base (CXr P w) 5 f2 fd2 ["days", "room"] (sb_best CD CR)) :
    FnOk P w K mg base (CXr P w) 6 f fd ["days", "room"] (sb_best CD CR) := by
  refine F.okX sc_most_gain (fun vs H Q E h => ?_) (fun cdv A outer s H vs Q E hr h => ?_)
  · obtain ⟨v, d, rfl, _⟩ := h
    rfl
  · obtain ⟨v, r, rfl, r1, h⟩ := h
    refine (c_EA _ (pss_one (ps_ret (pe_callC G1 hr rfl D1.m D1.k D1.b .nil pass_cx (pa_c (pv 0) (pa_c (pe_fld (pe_callC G2 hr rfl D2.m D2.k D2.b .nil pass_cx (pa_c (pv 0) (pa_c (pv 1) pa_nil))) rfl) pa_nil))))) ?_)
    exact (c_EA _ rfl (c_EA _ rfl (c_EA _ rfl (c_EEAA v r rfl r1 h))))

theorem okb_barred {CD CR CL f1 f2 f3 : Addr} {fd1 fd2 fd3 : FuncData} (F : Fun K "barred" "barred" s_barred f fd) (D1 : Def K mg "check_days" ["days"] f1 fd1) (G1 : FnOk P w K mg base (CXr P w) 4 f1 fd1 ["days"] (sx_days CD))
    (D2 : Def K mg "check_room" ["room"] f2 fd2) (G2 : FnOk P w K mg base (CXr P w) 2 f2 fd2 ["room"] (sx_room CR))
    (D3 : Def K mg "check_dealing" ["days", "dealing"] f3 fd3) (G3 : FnOk P w K mg base (CXr P w) 4 f3 fd3 ["days", "dealing"] (sx_dealing CL)) :
    FnOk P w K mg base (CXr P w) 5 f fd ["days", "room", "dealing"] (sb_barred CD CR CL) := by
  have G2' := G2.mono (show 2 ≤ 4 by decide)
  have G3' := G3
  refine F.okX sc_barred (fun vs H Q E h => ?_) (fun cdv A outer s H vs Q E hr h => ?_)
  · obtain ⟨v, r, d, rfl, _⟩ := h
    rfl
  · obtain ⟨v, r, d, rfl, r1, h⟩ := h
    refine (c_EA _ (pss_cons (ps_expr (pe_call G1 hr rfl D1.m D1.k D1.b .nil pass_cx (pa_cons (pv 0) pa_nil)))
    (pss_cons (ps_expr (pe_call G2' hr rfl D2.m D2.k D2.b .nil pass_cx (pa_cons (pv 1) pa_nil)))
    (pss_cons (ps_expr (pe_call G3' hr rfl D3.m D3.k D3.b .nil pass_cx (pa_cons (pv 0) (pa_cons (pv 2) pa_nil))))
    pss_never))) ?_)
    rcases h with ⟨e1, q⟩ | ⟨e1, pr, e2, q⟩ | ⟨pr, er, e1, a, us, rfl, ha, r2, e2, q⟩
    · exact (c_EA _ rfl (c_EAAA v rfl r1 (nott e1) (fun _ H1 s1 => q H1 s1)))
    · refine (c_EA _ rfl (c_EAAA _ rfl r1 (fun _ H1 s1 => ?_) (notf e1)))
      exact (c_EA _ rfl (c_EAAA r rfl (pr.mono s1) (nott e2) (fun _ => q H1 s1)))
    · refine (c_EA _ rfl (c_EAAA _ rfl r1 (fun _ H1 s1 => ?_) (notf e1)))
      refine (c_EA _ rfl (c_EAAA r rfl (pr.mono s1) (fun _ => ?_) (notf er)))
      exact (c_EA _ rfl (c_EA _ rfl (c_EEEAAAA a us d rfl (s1 _ _ ha) (r2.mono s1) (nott (by rw [lenIs_mono s1 r2.pl, rowsB_mono s1 r2]; exact e2)) (fun _ H2 s2 => q H2 (s1.trans s2)))))

theorem okb_changed {CD CR CB f1 f2 f3 f4 : Addr} {fd1 fd2 fd3 fd4 : FuncData} (F : Fun K "changed" "changed" s_changed f fd) (D1 : Def K mg "check_days" ["days"] f1 fd1) (G1 : FnOk P w K mg base (CXr P w) 4 f1 fd1 ["days"] (sx_days CD))
    (D2 : Def K mg "check_room" ["room"] f2 fd2) (G2 : FnOk P w K mg base (CXr P w) 2 f2 fd2 ["room"] (sx_room CR))
    (D3 : Def K mg "check_count" ["days", "at"] f3 fd3) (G3 : FnOk P w K mg base (CXr P w) 2 f3 fd3 ["days", "at"] (sx_count CB)) (D4 : Def K mg "check_day" ["day"] f4 fd4) (G4 : FnOk P w K mg base (CXr P w) 4 f4 fd4 ["day"] (sx_other CD)) :
    FnOk P w K mg base (CXr P w) 5 f fd ["days", "room", "at", "day"] (sb_changed CD CR CB) := by
  have G2' := G2.mono (show 2 ≤ 4 by decide)
  have G3' := G3.mono (show 2 ≤ 4 by decide)
  have G4' := G4
  refine F.okX sc_changed (fun vs H Q E h => ?_) (fun cdv A outer s H vs Q E hr h => ?_)
  · obtain ⟨v, r, i, o, rfl, _⟩ := h
    rfl
  · obtain ⟨v, r, i, o, rfl, r1, h⟩ := h
    refine (c_EA _ (pss_cons (ps_expr (pe_call G1 hr rfl D1.m D1.k D1.b .nil pass_cx (pa_cons (pv 0) pa_nil)))
    (pss_cons (ps_expr (pe_call G2' hr rfl D2.m D2.k D2.b .nil pass_cx (pa_cons (pv 1) pa_nil)))
    (pss_cons (ps_expr (pe_call G3' hr rfl D3.m D3.k D3.b .nil pass_cx (pa_cons (pv 0) (pa_cons (pv 2) pa_nil))))
    (pss_cons (ps_expr (pe_call G4' hr rfl D4.m D4.k D4.b .nil pass_cx (pa_cons (pv 3) pa_nil)))
    pss_never)))) ?_)
    rcases h with ⟨e1, q⟩ | ⟨e1, pr, e2, q⟩ | ⟨pr, er, ⟨e1, a, us, rfl, ha, pi, e2, q⟩ | ⟨e1, a, us, rfl, ha, pi, e2, ro, e3, q⟩⟩
    · exact (c_EA _ rfl (c_EAAA v rfl r1 (nott e1) (fun _ H1 s1 => q H1 s1)))
    · refine (c_EA _ rfl (c_EAAA _ rfl r1 (fun _ H1 s1 => ?_) (notf e1)))
      exact (c_EA _ rfl (c_EAAA r rfl (pr.mono s1) (nott e2) (fun _ => q H1 s1)))
    · refine (c_EA _ rfl (c_EAAA _ rfl r1 (fun _ H1 s1 => ?_) (notf e1)))
      refine (c_EA _ rfl (c_EAAA r rfl (pr.mono s1) (fun _ => ?_) (notf er)))
      exact (c_EA _ rfl (c_EA _ rfl (c_EEEAAAA a us i rfl (s1 _ _ ha) (pi.mono s1) (nott e2) (fun _ => q H1 s1))))
    · refine (c_EA _ rfl (c_EAAA _ rfl r1 (fun _ H1 s1 => ?_) (notf e1)))
      refine (c_EA _ rfl (c_EAAA r rfl (pr.mono s1) (fun _ => ?_) (notf er)))
      refine (c_EA _ rfl (c_EA _ rfl (c_EEEAAAA a us i rfl (s1 _ _ ha) (pi.mono s1) (fun _ => ?_) (notf e2))))
      exact (c_EA _ rfl (c_EAAA o rfl (ro.mono s1) (nott (by rw [rowB_mono s1 ro.pl]; exact e3)) (fun _ H2 s2 => q H2 (s1.trans s2))))
end
end Gs
/-! What is no day, no room, no dealing. -/
namespace Gs
open PySem PySem.Spec PyProof.Rows L2
theorem atmod {α : Type} {xs : List α} (k : Int) (h : xs ≠ []) : ∃ (j : Nat) (v : α), atI xs (k % (xs.length : Int)) = some v ∧ xs[j]? = some v := by
  have hl : 0 < xs.length := List.length_pos_iff.mpr h
  have h0 : 0 ≤ k % (xs.length : Int) := Int.emod_nonneg _ (by omega)
  have h1 : k % (xs.length : Int) < (xs.length : Int) := Int.emod_lt_of_pos _ (by omega)
  obtain ⟨j, hj⟩ : ∃ j : Nat, k % (xs.length : Int) = (j : Int) := ⟨(k % (xs.length : Int)).toNat, by omega⟩
  have hlt : j < xs.length := by omega
  refine (c_EEA j (xs[j]) ?_ (List.getElem?_eq_getElem hlt))
  rw [hj]
  exact atI_nat (List.getElem?_eq_getElem hlt)
section
variable {H : Hp} {c : Nat}
theorem bad_non : Row1 H .non ∧ rowB c H .non = false := ⟨⟨trivial, fun a xs e => by cases e⟩, rfl⟩
theorem bad_int {n : Int} : Row1 H (.int n) ∧ rowB c H (.int n) = false := ⟨⟨trivial, fun a xs e => by cases e⟩, rfl⟩
theorem bad_lst {t : Addr} {xs : List V} (h : H t = some (.lst xs)) : Row1 H (.ref t) ∧ rowB c H (.ref t) = false := by
  refine ⟨⟨.inl ⟨xs, h⟩, fun a ys e q => ?_⟩, ?_⟩
  · cases e
    rw [h] at q
    cases q
  · simp only [rowB, h]
theorem row_tup {t : Addr} {xs : List V} (h : H t = some (.tup xs)) (hl : xs.length ≤ 1000) (hp : ∀ x ∈ xs, Plain H x) : Row1 H (.ref t) := by
  refine ⟨.inr (.inl ⟨xs, h⟩), fun a ys e q => ?_⟩
  cases e
  rw [h] at q
  cases q
  exact ⟨hl, hp⟩
theorem bad_tup {t : Addr} {xs : List V} (h : H t = some (.tup xs)) (hl : xs.length ≤ 1000) (hp : ∀ x ∈ xs, Plain H x) (hb : (decide (xs.length = c) && xs.all amt) = false) : Row1 H (.ref t) ∧ rowB c H (.ref t) = false :=
  ⟨row_tup h hl hp, by rw [rowB_at h]; exact hb⟩
end
end Gs
set_option maxHeartbeats 8000000
/-! What is no day. -/
seal PySem.wpAny
namespace Gs
open PySem PySem.Spec PyProof.Rows L2
abbrev s__law_day : Stmt := top 54
theorem sc__law_day : FnScope ["_law_which", "_law_more", "_law_bad"] ["_law_which", "_law_more"] (defScope s__law_day) := ⟨rfl, rfl, rfl, by decide +kernel, rfl, by decide +kernel, by decide +kernel⟩
def sd_day : Sp := fun vs H Q _ => ∃ wh mo : Int, vs = [.int wh, .int mo] ∧ 0 ≤ mo ∧ ∀ v H', Same H H' → Row1 H' v → rowB 4 H' v = false → Q v H'
section
variable {P : Program} {w : World} {K : PySem.W.Frag} {mg : Str → Option Value} {base : Heap} {f : Addr} {fd : FuncData}
theorem ok__law_day (F : Fun K "_law_day" "_law_day" s__law_day f fd) : FnOk P w K mg base CX0 1 f fd ["_law_which", "_law_more"] sd_day := by
  refine F.ok sc__law_day (fun vs H Q E h => ?_) (fun cdv A outer s H vs Q E hr h => ?_)
  · obtain ⟨wh, mo, rfl, _⟩ := h
    rfl
  · obtain ⟨wh, mo, rfl, h0, q⟩ := h
    refine (c_EA _ (pss_cons (ps_set (i := 2) sc__law_day.nd rfl (Or.inl rfl) (pe_lstW (pa_c pe_non (pa_c pe_int (pa_c (pe_tupW (pa_c pe_int (pa_c pe_int (pa_c pe_int pa_nil)))) (pa_c (pe_tupW (pa_c pe_int (pa_c pe_int (pa_c pe_int (pa_c pe_int (pa_c pe_int pa_nil)))))) (pa_c (pe_lstW (pa_c pe_int (pa_c pe_int (pa_c pe_int (pa_c pe_int pa_nil))))) (pa_c (pe_tupW (pa_c pe_int (pa_c (pe_op op_sub (pe_un un_neg pe_int) (pv 1)) (pa_c pe_int (pa_c pe_int pa_nil))))) (pa_c (pe_tupW (pa_c (pe_un un_neg pe_int) (pa_c pe_int (pa_c pe_int (pa_c pe_int pa_nil))))) (pa_c (pe_tupW (pa_c pe_int (pa_c pe_int (pa_c (pe_op op_sub (pe_un un_neg pe_int) (pv 1)) (pa_c pe_int pa_nil))))) pa_nil))))))))))
    (pss_one (ps_ret (pe_ix ix_list (pe_op op_catW (pv 2) (pe_lstW (pa_c (pe_tupW (pa_c pe_int (pa_c pe_int (pa_c pe_int (pa_c (pe_un un_neg pe_int) pa_nil))))) (pa_c (pe_tupW (pa_c pe_bl (pa_c pe_int (pa_c pe_int (pa_c pe_int pa_nil))))) (pa_c (pe_tupW (pa_c pe_int (pa_c pe_str (pa_c pe_int (pa_c pe_int pa_nil))))) (pa_c (pe_tupW (pa_c pe_int (pa_c pe_int (pa_c pe_non (pa_c pe_int pa_nil))))) pa_nil)))))) (pe_op op_mod (pv 0) pe_int) (fun _ _ => rfl))))) ?_)
    refine ⟨by simp only [List.length_cons, List.length_nil]; decide, fun t1 H_t1 s_t1 e_t1 n_t1 => ?_⟩
    refine ⟨by simp only [List.length_cons, List.length_nil]; decide, fun t2 H_t2 s_t2 e_t2 n_t2 => ?_⟩
    refine ⟨by simp only [List.length_cons, List.length_nil]; decide, fun t3 H_t3 s_t3 e_t3 n_t3 => ?_⟩
    refine (c_EA _ rfl (c_EA _ rfl (c_EEAA _ _ rfl rfl ⟨by simp only [List.length_cons, List.length_nil]; decide, fun t4 H_t4 s_t4 e_t4 n_t4 => ?_⟩)))
    refine (c_EA _ rfl ⟨by simp only [List.length_cons, List.length_nil]; decide, fun t5 H_t5 s_t5 e_t5 n_t5 => ?_⟩)
    refine (c_EA _ rfl (c_EA _ rfl (c_EEAA _ _ rfl rfl ⟨by simp only [List.length_cons, List.length_nil]; decide, fun t6 H_t6 s_t6 e_t6 n_t6 => ?_⟩)))
    refine ⟨by simp only [List.length_cons, List.length_nil]; decide, fun p H_p s_p e_p n_p => ?_⟩
    refine (c_EA _ rfl ?_)
    refine (c_EA _ rfl ⟨by simp only [List.length_cons, List.length_nil]; decide, fun t7 H_t7 s_t7 e_t7 n_t7 => ?_⟩)
    refine ⟨by simp only [List.length_cons, List.length_nil]; decide, fun t8 H_t8 s_t8 e_t8 n_t8 => ?_⟩
    refine ⟨by simp only [List.length_cons, List.length_nil]; decide, fun t9 H_t9 s_t9 e_t9 n_t9 => ?_⟩
    refine ⟨by simp only [List.length_cons, List.length_nil]; decide, fun t10 H_t10 s_t10 e_t10 n_t10 => ?_⟩
    refine ⟨by simp only [List.length_cons, List.length_nil]; decide, fun p2 H_p2 s_p2 e_p2 n_p2 => ?_⟩
    refine (c_EEEEAAAAA p p2 _ _ rfl rfl (s_p2 _ _ (s_t10 _ _ (s_t9 _ _ (s_t8 _ _ (s_t7 _ _ e_p))))) e_p2 (by simp only [List.length_cons, List.length_nil]; decide) (fun p3 H_p3 s_p3 e_p3 n_p3 => ?_))
    refine (c_EA _ rfl (c_EEAAA _ _ rfl rfl (by show (0 : Int) < 12; decide) ?_))
    have S_p2 := s_p3
    replace e_p2 := S_p2 _ _ e_p2
    have S_t10 := s_p2.trans S_p2
    replace e_t10 := S_t10 _ _ e_t10
    have S_t9 := s_t10.trans S_t10
    replace e_t9 := S_t9 _ _ e_t9
    have S_t8 := s_t9.trans S_t9
    replace e_t8 := S_t8 _ _ e_t8
    have S_t7 := s_t8.trans S_t8
    replace e_t7 := S_t7 _ _ e_t7
    have S_p := s_t7.trans S_t7
    replace e_p := S_p _ _ e_p
    have S_t6 := s_p.trans S_p
    replace e_t6 := S_t6 _ _ e_t6
    have S_t5 := s_t6.trans S_t6
    replace e_t5 := S_t5 _ _ e_t5
    have S_t4 := s_t5.trans S_t5
    replace e_t4 := S_t4 _ _ e_t4
    have S_t3 := s_t4.trans S_t4
    replace e_t3 := S_t3 _ _ e_t3
    have S_t2 := s_t3.trans S_t3
    replace e_t2 := S_t2 _ _ e_t2
    have S_t1 := s_t2.trans S_t2
    replace e_t1 := S_t1 _ _ e_t1
    have sAll := s_t1.trans S_t1
    obtain ⟨j, v, hat, hj⟩ := atmod (xs := [(.non : V), .int 5, .ref t1, .ref t2, .ref t3, .ref t4, .ref t5, .ref t6, .ref t7, .ref t8, .ref t9, .ref t10]) wh (by simp)
    have hv := List.mem_of_getElem? hj
    refine (c_EEEEAAAA p3 _ _ v rfl rfl (SqL.of e_p3) hat ?_)
    suffices z : Row1 _ v ∧ rowB 4 _ v = false from q v _ sAll z.1 z.2
    have neg : amt (.int (-1 - mo)) = false := decide_eq_false (by omega)
    simp only [List.mem_cons, List.not_mem_nil, or_false] at hv
    rcases hv with rfl | rfl | rfl | rfl | rfl | rfl | rfl | rfl | rfl | rfl | rfl | rfl
    · exact bad_non
    · exact bad_int
    · exact bad_tup e_t1 (by decide) (by simp [Plain]) rfl
    · exact bad_tup e_t2 (by decide) (by simp [Plain]) rfl
    · exact bad_lst e_t3
    · exact bad_tup e_t4 (by simp) (by simp [Plain]) (by simp [neg])
    · exact bad_tup e_t5 (by decide) (by simp [Plain]) rfl
    · exact bad_tup e_t6 (by simp) (by simp [Plain]) (by simp [neg])
    · exact bad_tup e_t7 (by decide) (by simp [Plain]) rfl
    · exact bad_tup e_t8 (by decide) (by simp [Plain]) rfl
    · exact bad_tup e_t9 (by decide) (by simp [Plain]) rfl
    · exact bad_tup e_t10 (by decide) (by simp [Plain]) rfl
end
end Gs
unseal PySem.wpAny
set_option maxHeartbeats 8000000
/-! What is no days, at each door. -/
seal PySem.wpAny
namespace Gs
open PySem PySem.Spec PyProof.Rows L2
abbrev s__law_days_asked : Stmt := top 55
theorem sc__law_days_asked : FnScope ["_law_which", "_law_more", "_law_good", "_law_bad", "_law_door"] ["_law_which", "_law_more"] (defScope s__law_days_asked) := ⟨rfl, rfl, rfl, by decide +kernel, rfl, by decide +kernel, by decide +kernel⟩
def sd_days (CD : Addr) : Sp := fun vs H _ E => ∃ wh mo : Int, vs = [.int wh, .int mo] ∧ 0 ≤ mo ∧ ∀ H', Same H H' → E (.ref CD) none H'
theorem at_in {α : Type} {xs : List α} {k : Int} (h0 : 0 ≤ k) (h1 : k < (xs.length : Int)) : ∃ v, atI xs k = some v ∧ v ∈ xs := by
  obtain ⟨j, hj⟩ : ∃ j : Nat, k = (j : Int) := ⟨k.toNat, by omega⟩
  subst hj
  have hlt : j < xs.length := by omega
  exact (c_EA (xs[j]) (atI_nat (List.getElem?_eq_getElem hlt)) (List.getElem_mem hlt))
theorem cutV_mem {xs : List V} {lo hi : Option Int} {x : V} (h : x ∈ cutV xs lo hi) : x ∈ xs := List.mem_of_mem_drop (List.mem_of_mem_take h)
section
variable {H : Hp} {c : Nat} {v : V}
theorem rows_no (pl : Plain H v) (h : ∀ a xs, v = .ref a → H a ≠ some (.lst xs)) : Rows1 H v ∧ rowsB c H v = false := by
  refine ⟨⟨pl, fun a xs e q => absurd q (h a xs e)⟩, ?_⟩
  cases v with
  | ref a =>
    simp only [rowsB]
    split
    · rename_i xs e
      exact absurd e (h a xs rfl)
    · rfl
  | _ => rfl
theorem rows_lst {a : Addr} {xs : List V} (h : H a = some (.lst xs)) (hl : xs.length ≤ 1000) (hr : ∀ x ∈ xs, Row1 H x) : Rows1 H (.ref a) := by
  refine ⟨.inl ⟨xs, h⟩, fun b ys e q => ?_⟩
  cases e
  rw [h] at q
  cases q
  exact ⟨hl, hr⟩
theorem rows_bad {a : Addr} {xs : List V} {x : V} (h : H a = some (.lst xs)) (hx : x ∈ xs) (hb : rowB c H x = false) : rowsB c H (.ref a) = false := by
  rw [rowsB_at h, List.all_eq_false]
  exact (c_EA x hx (by rw [hb]; exact Bool.false_ne_true))
end
/-- a good day -/
def GoodDay (H : Hp) (v : V) : Prop := ∃ t, v = .ref t ∧ H t = some (.tup [.int 1, .int 2, .int 3, .int 4])
theorem GoodDay.mono {H H' : Hp} {v : V} (s : Same H H') (h : GoodDay H v) : GoodDay H' v := by
  obtain ⟨t, h1, h2⟩ := h
  exact (c_EA t h1 (s _ _ h2))
theorem GoodDay.row {H : Hp} {v : V} (h : GoodDay H v) : Row1 H v := by
  obtain ⟨t, rfl, e⟩ := h
  exact row_tup e (by decide) (by simp [Plain])
section
variable {P : Program} {w : World} {K : PySem.W.Frag} {mg : Str → Option Value} {base : Heap} {f : Addr} {fd : FuncData}
theorem ok__law_days_asked {CD CR CL CB f1 f2 f3 f4 f5 f6 f7 : Addr} {fd1 fd2 fd3 fd4 fd5 fd6 fd7 : FuncData} (F : Fun K "_law_days_asked" "_law_days_asked" s__law_days_asked f fd) (T : Txt mg)
    (D1 : Def K mg "_law_day" ["_law_which", "_law_more"] f1 fd1) (G1 : FnOk P w K mg base CX0 1 f1 fd1 ["_law_which", "_law_more"] sd_day)
    (D2 : Def K mg "stored" ["days", "dealing"] f2 fd2) (G2 : FnOk P w K mg base (CXr P w) 6 f2 fd2 ["days", "dealing"] (sb_two CD CL))
    (D3 : Def K mg "gained" ["days", "dealing"] f3 fd3) (G3 : FnOk P w K mg base (CXr P w) 6 f3 fd3 ["days", "dealing"] (sb_two CD CL))
    (D4 : Def K mg "barred" ["days", "room", "dealing"] f4 fd4) (G4 : FnOk P w K mg base (CXr P w) 6 f4 fd4 ["days", "room", "dealing"] (sb_barred CD CR CL))
    (D5 : Def K mg "best" ["days", "room"] f5 fd5) (G5 : FnOk P w K mg base (CXr P w) 6 f5 fd5 ["days", "room"] (sb_best CD CR))
    (D6 : Def K mg "most_gain" ["days", "room"] f6 fd6) (G6 : FnOk P w K mg base (CXr P w) 6 f6 fd6 ["days", "room"] (sb_best CD CR))
    (D7 : Def K mg "changed" ["days", "room", "at", "day"] f7 fd7) (G7 : FnOk P w K mg base (CXr P w) 6 f7 fd7 ["days", "room", "at", "day"] (sb_changed CD CR CB)) :
    FnOk P w K mg base (CXr P w) 7 f fd ["_law_which", "_law_more"] (sd_days CD) := by
  replace G1 := G1.mono (show 1 ≤ 6 by decide)
  refine F.okX sc__law_days_asked (fun vs H Q E h => ?_) (fun cdv A outer s H vs Q E hr h => ?_)
  · obtain ⟨wh, mo, rfl, _⟩ := h
    rfl
  · obtain ⟨wh, mo, rfl, h0, q⟩ := h
    refine (c_EA _ (pss_cons (ps_comp (i := 2) (NF := ["_law_which", "_law_more", "_law_good", "_law_bad", "_law_door"]) (scF := defScope s__law_days_asked) (nOwn := 1) (NC := ["_law_day_here"]) (ix := []) rfl rfl rfl sc__law_days_asked.nd rfl rfl ⟨rfl, by decide +kernel, by decide +kernel, by decide +kernel, by decide +kernel, rfl⟩ (pi_range1 rfl T.n_range (pa_c (pe_op op_mod (pv 1) pe_int) pa_nil)) (fun _ _ _ _ => (pg_name (i := 0) (show List.Nodup (["_law_day_here"] : List Str) by decide +kernel) rfl (Or.inl rfl) (Or.inr rfl))) (fun _ _ _ _ => pf_nil) (fun _ _ _ _ => (pe_tupW (pa_c pe_int (pa_c pe_int (pa_c pe_int (pa_c pe_int pa_nil)))))))
    (pss_cons (ps_set (i := 3) sc__law_days_asked.nd rfl (Or.inl rfl) (pe_ix ix_list (pe_lstW (pa_c (pe_op op_catW (pe_op op_catW (pv 2) (pe_lstW (pa_c (pe_callC G1 hr rfl D1.m D1.k D1.b .nil pass0 (pa_c (pe_op op_fdiv (pv 0) pe_int) (pa_c (pv 1) pa_nil))) pa_nil))) (pe_slice sl_listW (pv 2) po_none (po_some pe_int))) (pa_c pe_non (pa_c (pe_tupW (pa_c (pe_tupW (pa_c pe_int (pa_c pe_int (pa_c pe_int (pa_c pe_int pa_nil))))) pa_nil)) (pa_c pe_str (pa_c pe_d0W pa_nil)))))) (pe_callBC (call_maxI rfl) rfl T.n_max boot_max (pa_c pe_int (pa_c (pe_op op_sub (pe_op op_mod (pv 0) pe_int) pe_int) pa_nil))) (fun _ _ => rfl)))
    (pss_cons (ps_set (i := 4) sc__law_days_asked.nd rfl (Or.inl rfl) (pe_op op_mod (pe_op op_fdiv (pv 0) pe_int) pe_int))
    (pss_cons (ps_if (pt_cmpR op_lt (pv 4) pe_int (nomark _))
      (pss_one (ps_ret (pe_ifExp (pt_cmpR op_eq (pv 4) pe_int (nomark _)) (pe_callC G2 hr rfl D2.m D2.k D2.b .nil pass_cx (pa_c (pv 3) (pa_c pe_non pa_nil))) (pe_ifExp (pt_cmpR op_eq (pv 4) pe_int (nomark _)) (pe_callC G3 hr rfl D3.m D3.k D3.b .nil pass_cx (pa_c (pv 3) (pa_c pe_non pa_nil))) (pe_callC G4 hr rfl D4.m D4.k D4.b .nil pass_cx (pa_c (pv 3) (pa_c (pe_un un_neg pe_int) (pa_c pe_non pa_nil))))))))
      pss_nil)
    (pss_one (ps_ret (pe_ifExp (pt_cmpR op_eq (pv 4) pe_int (nomark _)) (pe_callC G5 hr rfl D5.m D5.k D5.b .nil pass_cx (pa_c (pv 3) (pa_c (pe_un un_neg pe_int) pa_nil))) (pe_ifExp (pt_cmpR op_eq (pv 4) pe_int (nomark _)) (pe_callC G6 hr rfl D6.m D6.k D6.b .nil pass_cx (pa_c (pv 3) (pa_c pe_non pa_nil))) (pe_callC G7 hr rfl D7.m D7.k D7.b .nil pass_cx (pa_c (pv 3) (pa_c (pe_un un_neg pe_int) (pa_c (pe_un un_neg pe_int) (pa_c pe_non pa_nil))))))))))))) ?_)
    have hm : 0 ≤ mo % 7 ∧ mo % 7 < 7 := by omega
    refine (c_EA _ rfl (c_EEAAA _ _ rfl rfl (by show (0 : Int) < 7; decide) (c_EAAA _ rfl (by omega) (by omega) (comp_cnt cnt_range (fun i ys H2 => Same H H2 ∧ ys.length = i ∧ ∀ y ∈ ys, GoodDay H2 y) (c_AA (Same.refl H) rfl (by simp)) ?_ ?_ ?_))))
    · rintro i ys H2 hi ⟨s2, hl, hy⟩
      exact ⟨trivial, small1 (by omega)⟩
    · rintro i x ys H2 H3 hi ⟨s2, hl, hy⟩ ⟨rfl, rfl⟩
      refine ⟨⟨rfl, rfl⟩, ⟨by simp only [List.length_cons, List.length_nil]; decide, fun t H_t s_t e_t n_t => (c_AA (s2.trans s_t) (by simp [hl]) (fun y hy' => ?_))⟩⟩
      rcases List.mem_append.mp hy' with z | z
      · exact (hy y z).mono s_t
      · have e : y = .ref t := by simpa using z
        subst e
        exact (c_EA t rfl e_t)
    rintro ys H2 ⟨s2, hl, hy⟩ p hp
    have hl7 : ys.length ≤ 7 := by omega
    have s3 : Same H2 (upd H2 p (.lst ys)) := same_new hp _
    have e_p : upd H2 p (.lst ys) p = some (.lst ys) := upd_same
    have s23 := s2.trans s3
    replace hy : ∀ y ∈ ys, GoodDay (upd H2 p (.lst ys)) y := fun y z => (hy y z).mono s3
    refine (c_EA _ rfl (c_EA _ rfl (c_EEAAA _ _ rfl rfl ⟨by decide, by decide⟩ (c_EA _ rfl (c_EEAA (wh / 14) mo rfl h0 (fun v Hv s_v r1 rb => ?_))))))
    refine ⟨by simp only [List.length_cons, List.length_nil]; decide, fun l1 H1 s_1 e_1 n_1 => ?_⟩
    refine (c_EEEEAAAAA p l1 ys ([v]) rfl rfl (s_1 _ _ (s_v _ _ e_p)) e_1 (small1 (by simp only [List.length_cons, List.length_nil]; omega)) (fun c1 H3 s_3 e_3 n_3 => ?_))
    have s_p3 := s_v.trans (s_1.trans s_3)
    refine (c_EA _ rfl (c_EA _ rfl (c_EEAA p ys rfl (SqL.of (s_p3 _ _ e_p)) (fun sl H4 s_4 e_4 n_4 => ?_))))
    have hcut : (cutV ys none (some 2)).length ≤ ys.length := cutV_length ys none (some 2)
    refine (c_EEEEAAAAA c1 sl (ys ++ [v]) _ rfl rfl (s_4 _ _ e_3) e_4 (small1 (by simp only [List.length_append, List.length_cons, List.length_nil]; omega)) (fun cc H5 s_5 e_5 n_5 => ?_))
    refine ⟨by simp only [List.length_cons, List.length_nil]; decide, fun t1 H6 s_6 e_6 n_6 => ⟨by simp only [List.length_cons, List.length_nil]; decide, fun t2 H7 s_7 e_7 n_7 => ?_⟩⟩
    refine fun d H8 s_8 e_8 n_8 => ⟨by simp only [List.length_cons, List.length_nil]; decide, fun L5 H9 s_9 e_9 n_9 => ?_⟩
    have s_v9 : Same Hv H9 := s_1.trans (s_3.trans (s_4.trans (s_5.trans (s_6.trans (s_7.trans (s_8.trans s_9))))))
    have sAll : Same H H9 := s23.trans (s_v.trans s_v9)
    have k0 : 0 ≤ max 0 (wh % 14 - 9) := by omega
    have k1 : max 0 (wh % 14 - 9) < 5 := by omega
    obtain ⟨u, hat, hu⟩ := at_in (xs := [(.ref cc : V), .non, .ref t2, .str "1", .ref d]) k0 k1
    refine (c_EA _ rfl (c_EEAAA _ _ rfl rfl (by show (0 : Int) < 14; decide) (c_EEAA _ _ rfl rfl (c_EEA _ _ rfl ?_))))
    refine (c_EEEEAAAA L5 _ _ u rfl rfl (SqL.of e_9) hat ?_)
    have bad : Rows1 H9 u ∧ rowsB 4 H9 u = false := by
      simp only [List.mem_cons, List.not_mem_nil, or_false] at hu
      rcases hu with rfl | rfl | rfl | rfl | rfl
      · have s_59 : Same H5 H9 := s_6.trans (s_7.trans (s_8.trans s_9))
        have e := s_59 _ _ e_5
        have rv := r1.mono s_v9
        refine ⟨rows_lst e ?_ fun x hx => ?_, rows_bad (x := v) e (by simp) (by rw [rowB_mono s_v9 r1.pl]; exact rb)⟩
        · simp only [List.length_append, List.length_cons, List.length_nil]
          omega
        · rcases List.mem_append.mp hx with z | z
          · rcases List.mem_append.mp z with z | z
            · exact ((hy x z).mono (s_v.trans s_v9)).row
            · have e : x = v := by simpa using z
              subst e
              exact rv
          · exact ((hy x (cutV_mem z)).mono (s_v.trans s_v9)).row
      · exact rows_no trivial (fun a xs e => by cases e)
      · have e := s_9 _ _ (s_8 _ _ e_7)
        refine rows_no (.inr (.inl ⟨_, e⟩)) (fun a xs z y => ?_)
        cases z
        rw [e] at y
        cases y
      · exact rows_no trivial (fun a xs e => by cases e)
      · have e := s_9 _ _ e_8
        refine rows_no (.inr (.inr ⟨_, e⟩)) (fun a xs z y => ?_)
        cases z
        rw [e] at y
        cases y
    obtain ⟨b1, b2⟩ := bad
    have B : Bad1 CD H9 E u := ⟨b2, fun H' s' => q H' (sAll.trans s')⟩
    refine (c_EA _ rfl (c_EEAAA _ _ rfl rfl ⟨by decide, by decide⟩ (c_EEAAA _ _ rfl rfl (by show (0 : Int) < 6; decide) ?_)))
    refine (c_EA _ rfl (c_EEAAEA _ _ rfl rfl _ rfl (ite2 (fun _ => ?_) (fun _ => ?_))))
    · refine (c_EA _ rfl (c_AEA rfl _ rfl (ite2 (fun _ => ?_) (fun _ => ?_))))
      · exact (c_EA _ rfl (c_EEAA u (.non) rfl b1 (.inl B)))
      · refine (c_EA _ rfl (c_AEA rfl _ rfl (ite2 (fun _ => ?_) (fun _ => ?_))))
        · exact (c_EA _ rfl (c_EEAA u (.non) rfl b1 (.inl B)))
        · exact (c_EA _ rfl (c_EA _ rfl (c_EEEAA u _ (.non) rfl b1 (.inl B))))
    · refine (c_EA _ rfl (c_AEA rfl _ rfl (ite2 (fun _ => ?_) (fun _ => ?_))))
      · exact (c_EA _ rfl (c_EA _ rfl (c_EEAA u _ rfl b1 (.inl B))))
      · refine (c_EA _ rfl (c_AEA rfl _ rfl (ite2 (fun _ => ?_) (fun _ => ?_))))
        · exact (c_EA _ rfl (c_EEAA u (.non) rfl b1 (.inl B)))
        · exact (c_EA _ rfl (c_EA _ rfl (c_EA _ rfl (c_EEEEAA u _ _ (.non) rfl b1 (.inl B)))))
end
end Gs
unseal PySem.wpAny
set_option maxHeartbeats 8000000
/-! What is no room, no dealing, no day's count, no other day. -/
seal PySem.wpAny
namespace Gs
open PySem PySem.Spec PyProof.Rows L2
abbrev s__law_others_asked : Stmt := top 56
theorem sc__law_others_asked : FnScope ["_law_kind", "_law_which", "_law_more", "_law_days", "_law_bad", "_law_door"] ["_law_kind", "_law_which", "_law_more"] (defScope s__law_others_asked) := ⟨rfl, rfl, rfl, by decide +kernel, rfl, by decide +kernel, by decide +kernel⟩
def so_others (CD CR CL CB : Addr) : Sp := fun vs H _ E => ∃ k wh mo : Int, vs = [.int k, .int wh, .int mo] ∧ 0 ≤ mo ∧
  ((k = 1 ∧ ∀ H', Same H H' → E (.ref CR) none H') ∨ (k = 2 ∧ ∀ H', Same H H' → E (.ref CL) none H') ∨ (k = 3 ∧ ∀ H', Same H H' → E (.ref CB) none H') ∨ (k = 4 ∧ ∀ H', Same H H' → E (.ref CD) none H'))
theorem ite_is {k c : Int} {A B : Prop} (e : k = c) (h : A) : if decide (V.int k = V.int c) = true then A else B := by
  subst e
  rw [if_pos (decide_eq_true rfl)]
  exact h
theorem ite_ne {k c : Int} {A B : Prop} (e : k ≠ c) (h : B) : if decide (V.int k = V.int c) = true then A else B := by
  rw [if_neg (fun z => e (by injection (of_decide_eq_true z)))]
  exact h
theorem deal_no {H : Hp} {v : V} {n c : Nat} (pl : Plain H v) (h : ∀ a xs, v = .ref a → H a ≠ some (.lst xs)) : Rows1 H v ∧ (lenIs n H v && rowsB c H v) = false := by
  obtain ⟨h1, h2⟩ := rows_no (c := c) pl h
  exact ⟨h1, by rw [h2, Bool.and_false]⟩
theorem deal_len {H : Hp} {a : Addr} {xs : List V} {n c : Nat} (h : H a = some (.lst xs)) (hl : xs.length ≤ 1000) (hr : ∀ x ∈ xs, Row1 H x) (hn : xs.length ≠ n) : Rows1 H (.ref a) ∧ (lenIs n H (.ref a) && rowsB c H (.ref a)) = false :=
  ⟨rows_lst h hl hr, by rw [lenIs_at h, decide_eq_false hn, Bool.false_and]⟩
theorem deal_bad {H : Hp} {a : Addr} {xs : List V} {x : V} {n c : Nat} (h : H a = some (.lst xs)) (hl : xs.length ≤ 1000) (hr : ∀ x ∈ xs, Row1 H x) (hx : x ∈ xs) (hb : rowB c H x = false) : Rows1 H (.ref a) ∧ (lenIs n H (.ref a) && rowsB c H (.ref a)) = false :=
  ⟨rows_lst h hl hr, by rw [rows_bad h hx hb, Bool.and_false]⟩
section
variable {P : Program} {w : World} {K : PySem.W.Frag} {mg : Str → Option Value} {base : Heap} {f : Addr} {fd : FuncData}
theorem ok__law_others_asked {CD CR CL CB f1 f2 f3 f4 f5 f6 f7 : Addr} {fd1 fd2 fd3 fd4 fd5 fd6 fd7 : FuncData} (F : Fun K "_law_others_asked" "_law_others_asked" s__law_others_asked f fd)
    (D1 : Def K mg "_law_day" ["_law_which", "_law_more"] f1 fd1) (G1 : FnOk P w K mg base CX0 1 f1 fd1 ["_law_which", "_law_more"] sd_day)
    (D2 : Def K mg "stored" ["days", "dealing"] f2 fd2) (G2 : FnOk P w K mg base (CXr P w) 6 f2 fd2 ["days", "dealing"] (sb_two CD CL))
    (D3 : Def K mg "gained" ["days", "dealing"] f3 fd3) (G3 : FnOk P w K mg base (CXr P w) 6 f3 fd3 ["days", "dealing"] (sb_two CD CL))
    (D4 : Def K mg "barred" ["days", "room", "dealing"] f4 fd4) (G4 : FnOk P w K mg base (CXr P w) 6 f4 fd4 ["days", "room", "dealing"] (sb_barred CD CR CL))
    (D5 : Def K mg "best" ["days", "room"] f5 fd5) (G5 : FnOk P w K mg base (CXr P w) 6 f5 fd5 ["days", "room"] (sb_best CD CR))
    (D6 : Def K mg "most_gain" ["days", "room"] f6 fd6) (G6 : FnOk P w K mg base (CXr P w) 6 f6 fd6 ["days", "room"] (sb_best CD CR))
    (D7 : Def K mg "changed" ["days", "room", "at", "day"] f7 fd7) (G7 : FnOk P w K mg base (CXr P w) 6 f7 fd7 ["days", "room", "at", "day"] (sb_changed CD CR CB)) :
    FnOk P w K mg base (CXr P w) 7 f fd ["_law_kind", "_law_which", "_law_more"] (so_others CD CR CL CB) := by
  replace G1 := G1.mono (show 1 ≤ 6 by decide)
  refine F.okX sc__law_others_asked (fun vs H Q E h => ?_) (fun cdv A outer s H vs Q E hr h => ?_)
  · obtain ⟨k, wh, mo, rfl, _⟩ := h
    rfl
  · obtain ⟨k, wh, mo, rfl, h0, q⟩ := h
    have neg : amt (.int (-1 - mo)) = false := decide_eq_false (by omega)
    refine (c_EA _ (pss_cons (ps_set (i := 3) sc__law_others_asked.nd rfl (Or.inl rfl) (pe_lstW (pa_c (pe_tupW (pa_c pe_int (pa_c pe_int (pa_c pe_int (pa_c pe_int pa_nil))))) (pa_c (pe_tupW (pa_c pe_int (pa_c pe_int (pa_c pe_int (pa_c pe_int pa_nil))))) pa_nil))))
    (pss_cons (ps_if (pt_cmpR op_eq (pv 0) pe_int (nomark _))
      (pss_cons (ps_set (i := 4) sc__law_others_asked.nd rfl (Or.inl rfl) (pe_ix ix_list (pe_lstW (pa_c pe_non (pa_c pe_str (pa_c pe_bl (pa_c (pe_lstW (pa_c pe_int pa_nil)) (pa_c (pe_op op_sub (pe_un un_neg pe_int) (pv 2)) (pa_c (pe_tupW (pa_c pe_int pa_nil)) pa_nil))))))) (pe_op op_mod (pv 1) pe_int) (fun _ _ => rfl)))
      (pss_cons (ps_set (i := 5) sc__law_others_asked.nd rfl (Or.inl rfl) (pe_op op_mod (pe_op op_fdiv (pv 1) pe_int) pe_int))
      (pss_cons (ps_if (pt_cmpR op_lt (pv 5) pe_int (nomark _))
        (pss_one (ps_ret (pe_ifExp (pt_cmpR op_eq (pv 5) pe_int (nomark _)) (pe_callC G4 hr rfl D4.m D4.k D4.b .nil pass_cx (pa_c (pv 3) (pa_c (pv 4) (pa_c pe_non pa_nil)))) (pe_callC G5 hr rfl D5.m D5.k D5.b .nil pass_cx (pa_c (pv 3) (pa_c (pv 4) pa_nil))))))
        pss_nil)
      (pss_one (ps_ret (pe_ifExp (pt_cmpR op_eq (pv 5) pe_int (nomark _)) (pe_callC G6 hr rfl D6.m D6.k D6.b .nil pass_cx (pa_c (pv 3) (pa_c (pv 4) pa_nil))) (pe_callC G7 hr rfl D7.m D7.k D7.b .nil pass_cx (pa_c (pv 3) (pa_c (pv 4) (pa_c (pe_un un_neg pe_int) (pa_c pe_non pa_nil)))))))))))
      pss_nil)
    (pss_cons (ps_if (pt_cmpR op_eq (pv 0) pe_int (nomark _))
      (pss_cons (ps_set (i := 4) sc__law_others_asked.nd rfl (Or.inl rfl) (pe_lstW (pa_c pe_non (pa_c (pe_tupW (pa_c (pe_tupW (pa_c pe_int (pa_c pe_int pa_nil))) (pa_c (pe_tupW (pa_c pe_int (pa_c pe_int pa_nil))) pa_nil))) (pa_c pe_str (pa_c (pe_lstW (pa_c (pe_tupW (pa_c pe_int (pa_c pe_int pa_nil))) pa_nil)) (pa_c (pe_op op_repW (pe_lstW (pa_c (pe_tupW (pa_c pe_int (pa_c pe_int pa_nil))) pa_nil)) (pe_op op_add pe_int (pe_op op_mod (pv 2) pe_int))) (pa_c (pe_lstW (pa_c (pe_tupW (pa_c pe_int (pa_c pe_int pa_nil))) (pa_c (pe_tupW (pa_c pe_int pa_nil)) pa_nil))) (pa_c (pe_lstW (pa_c (pe_tupW (pa_c pe_int (pa_c pe_int pa_nil))) (pa_c (pe_lstW (pa_c pe_int (pa_c pe_int pa_nil))) pa_nil))) (pa_c (pe_lstW pa_nil) pa_nil))))))))))
      (pss_cons (ps_set (i := 4) sc__law_others_asked.nd rfl (Or.inl rfl) (pe_op op_catW (pv 4) (pe_lstW (pa_c (pe_lstW (pa_c (pe_tupW (pa_c pe_int (pa_c pe_int pa_nil))) (pa_c (pe_tupW (pa_c (pe_op op_sub (pe_un un_neg pe_int) (pv 2)) (pa_c pe_int pa_nil))) pa_nil))) (pa_c (pe_lstW (pa_c (pe_tupW (pa_c pe_int (pa_c pe_bl pa_nil))) (pa_c (pe_tupW (pa_c pe_int (pa_c pe_int pa_nil))) pa_nil))) (pa_c (pe_lstW (pa_c (pe_tupW (pa_c pe_int (pa_c pe_int pa_nil))) (pa_c (pe_tupW (pa_c pe_int (pa_c pe_str pa_nil))) pa_nil))) (pa_c (pe_lstW (pa_c pe_non (pa_c (pe_tupW (pa_c pe_int (pa_c pe_int pa_nil))) pa_nil))) pa_nil)))))))
      (pss_cons (ps_set (i := 5) sc__law_others_asked.nd rfl (Or.inl rfl) (pe_op op_mod (pe_op op_fdiv (pv 1) pe_int) pe_int))
      (pss_cons (ps_if (pt_cmpR op_lt (pv 5) pe_int (nomark _))
        (pss_one (ps_ret (pe_ifExp (pt_cmpR op_eq (pv 5) pe_int (nomark _)) (pe_callC G2 hr rfl D2.m D2.k D2.b .nil pass_cx (pa_c (pv 3) (pa_c (pe_ix ix_list (pv 4) (pe_op op_mod (pv 1) pe_int) (fun _ _ => rfl)) pa_nil))) (pe_callC G3 hr rfl D3.m D3.k D3.b .nil pass_cx (pa_c (pv 3) (pa_c (pe_ix ix_list (pv 4) (pe_op op_mod (pv 1) pe_int) (fun _ _ => rfl)) pa_nil))))))
        pss_nil)
      (pss_one (ps_ret (pe_callC G4 hr rfl D4.m D4.k D4.b .nil pass_cx (pa_c (pv 3) (pa_c pe_int (pa_c (pe_ix ix_list (pv 4) (pe_op op_mod (pv 1) pe_int) (fun _ _ => rfl)) pa_nil))))))))))
      pss_nil)
    (pss_cons (ps_if (pt_cmpR op_eq (pv 0) pe_int (nomark _))
      (pss_one (ps_ret (pe_callC G7 hr rfl D7.m D7.k D7.b .nil pass_cx (pa_c (pv 3) (pa_c pe_int (pa_c (pe_ix ix_list (pe_lstW (pa_c pe_non (pa_c pe_str (pa_c pe_bl (pa_c (pe_lstW (pa_c pe_int pa_nil)) (pa_c (pe_op op_sub (pe_un un_neg pe_int) (pv 2)) (pa_c (pe_op op_add pe_int (pv 2)) (pa_c (pe_tupW (pa_c pe_int pa_nil)) pa_nil)))))))) (pe_op op_mod (pv 1) pe_int) (fun _ _ => rfl)) (pa_c pe_non pa_nil)))))))
      pss_nil)
    (pss_one (ps_ret (pe_callC G7 hr rfl D7.m D7.k D7.b .nil pass_cx (pa_c (pv 3) (pa_c pe_int (pa_c (pe_op op_mod (pv 1) pe_int) (pa_c (pe_callC G1 hr rfl D1.m D1.k D1.b .nil pass0 (pa_c (pe_op op_fdiv (pv 1) pe_int) (pa_c (pv 2) pa_nil))) pa_nil))))))))))) ?_)
    refine ⟨by simp only [List.length_cons, List.length_nil]; decide, fun d1 H_d1 s_d1 e_d1 n_d1 => ?_⟩
    refine ⟨by simp only [List.length_cons, List.length_nil]; decide, fun d2 H_d2 s_d2 e_d2 n_d2 => ?_⟩
    refine ⟨by simp only [List.length_cons, List.length_nil]; decide, fun a H_a s_a e_a n_a => ?_⟩
    have s_0 : Same H H_a := s_d1.trans (s_d2.trans s_a)
    have e_1 := s_a _ _ (s_d2 _ _ e_d1)
    have e_2 := s_a _ _ e_d2
    have rd : Rows1 H_a (.ref a) := rows_lst e_a (by simp) (fun x hx => by
      simp only [List.mem_cons, List.not_mem_nil, or_false] at hx
      rcases hx with rfl | rfl
      · exact row_tup e_1 (by simp) (by simp [Plain])
      · exact row_tup e_2 (by simp) (by simp [Plain]))
    have gd : rowsB 4 H_a (.ref a) = true := by
      rw [rowsB_at e_a]
      simp only [List.all_cons, List.all_nil, rowB_at e_1, rowB_at e_2]
      rfl
    clear e_1 e_2 e_d1 e_d2
    rcases q with ⟨rfl, q⟩ | ⟨rfl, q⟩ | ⟨rfl, q⟩ | ⟨rfl, q⟩
    · refine (c_EA _ rfl (c_AEA rfl _ rfl (ite_is rfl ?_)))
      refine ⟨by simp only [List.length_cons, List.length_nil]; decide, fun l1 H_l1 s_l1 e_l1 n_l1 => ?_⟩
      refine (c_EA _ rfl (c_EA _ rfl (c_EEAA _ _ rfl rfl ⟨by simp only [List.length_cons, List.length_nil]; decide, fun t1 H_t1 s_t1 e_t1 n_t1 => ?_⟩)))
      refine ⟨by simp only [List.length_cons, List.length_nil]; decide, fun L6 H_L6 s_L6 e_L6 n_L6 => ?_⟩
      have S_t1 := s_L6
      replace e_t1 := S_t1 _ _ e_t1
      have S_l1 := s_t1.trans S_t1
      replace e_l1 := S_l1 _ _ e_l1
      have sAll := s_l1.trans S_l1
      obtain ⟨j, u, hat, hj⟩ := atmod (xs := [(.non : V), .str "1", .bl true, .ref l1, .int (-1 - mo), .ref t1]) wh (by simp)
      have hu := List.mem_of_getElem? hj
      refine (c_EA _ rfl (c_EEAAA _ _ rfl rfl (by show (0 : Int) < 6; decide) (c_EEEEAAAA L6 _ _ u rfl rfl (SqL.of e_L6) hat ?_)))
      have bad : Plain H_L6 u ∧ amt u = false := by
        simp only [List.mem_cons, List.not_mem_nil, or_false] at hu
        rcases hu with rfl | rfl | rfl | rfl | rfl | rfl
        · exact ⟨trivial, rfl⟩
        · exact ⟨trivial, rfl⟩
        · exact ⟨trivial, rfl⟩
        · exact ⟨.inl ⟨_, e_l1⟩, rfl⟩
        · exact ⟨trivial, neg⟩
        · exact ⟨.inr (.inl ⟨_, e_t1⟩), rfl⟩
      have B : Bad2 CR H_L6 E (.ref a) u := (c_AAA (by rw [rowsB_mono sAll rd]; exact gd) bad.1 bad.2 (fun H' s' => q H' (s_0.trans (sAll.trans s'))))
      have r9 := rd.mono sAll
      refine (c_EA _ rfl (c_EEAAA _ _ rfl rfl ⟨by decide, by decide⟩ (c_EEAAA _ _ rfl rfl (by show (0 : Int) < 4; decide) ?_)))
      refine (c_EA _ rfl (c_EEAAEA _ _ rfl rfl _ rfl (ite2 (fun _ => ?_) (fun _ => ?_))))
      · refine (c_EA _ rfl (c_AEA rfl _ rfl (ite2 (fun _ => ?_) (fun _ => ?_))))
        · exact (c_EA _ rfl (c_EA _ rfl (c_EEEAA _ u (.non) rfl r9 (.inr (.inl B)))))
        · exact (c_EA _ rfl (c_EA _ rfl (c_EEAA _ u rfl r9 (.inr B))))
      · refine (c_EA _ rfl (c_AEA rfl _ rfl (ite2 (fun _ => ?_) (fun _ => ?_))))
        · exact (c_EA _ rfl (c_EA _ rfl (c_EEAA _ u rfl r9 (.inr B))))
        · exact (c_EA _ rfl (c_EA _ rfl (c_EA _ rfl (c_EEEEAA _ u _ (.non) rfl r9 (.inr (.inl B))))))
    · refine (c_EA _ rfl (c_AEA rfl _ rfl (ite_ne (by decide) ?_)))
      refine (c_EA _ rfl (c_AEA rfl _ rfl (ite_is rfl ?_)))
      refine ⟨by simp only [List.length_cons, List.length_nil]; decide, fun b1 H_b1 s_b1 e_b1 n_b1 => ?_⟩
      refine ⟨by simp only [List.length_cons, List.length_nil]; decide, fun b2 H_b2 s_b2 e_b2 n_b2 => ?_⟩
      refine ⟨by simp only [List.length_cons, List.length_nil]; decide, fun b3 H_b3 s_b3 e_b3 n_b3 => ?_⟩
      refine ⟨by simp only [List.length_cons, List.length_nil]; decide, fun b4 H_b4 s_b4 e_b4 n_b4 => ?_⟩
      refine ⟨by simp only [List.length_cons, List.length_nil]; decide, fun b5 H_b5 s_b5 e_b5 n_b5 => ?_⟩
      refine ⟨by simp only [List.length_cons, List.length_nil]; decide, fun b6 H_b6 s_b6 e_b6 n_b6 => ?_⟩
      refine ⟨by simp only [List.length_cons, List.length_nil]; decide, fun b7 H_b7 s_b7 e_b7 n_b7 => ?_⟩
      have hm : 0 ≤ mo % 5 ∧ mo % 5 < 5 := by omega
      refine (c_EA _ rfl (c_EEAAA _ _ rfl rfl (by show (0 : Int) < 5; decide) (c_EEAA _ _ rfl rfl (c_EEEAAAAAA b7 (3 + mo % 5) _ rfl rfl e_b7 (by omega) (by omega) (small1 (by simp only [List.length_cons, List.length_nil]; omega)) (fun b8 H_b8 s_b8 e_b8 n_b8 => ?_)))))
      refine ⟨by simp only [List.length_cons, List.length_nil]; decide, fun b9 H_b9 s_b9 e_b9 n_b9 => ?_⟩
      refine ⟨by simp only [List.length_cons, List.length_nil]; decide, fun b10 H_b10 s_b10 e_b10 n_b10 => ?_⟩
      refine ⟨by simp only [List.length_cons, List.length_nil]; decide, fun b11 H_b11 s_b11 e_b11 n_b11 => ?_⟩
      refine ⟨by simp only [List.length_cons, List.length_nil]; decide, fun b12 H_b12 s_b12 e_b12 n_b12 => ?_⟩
      refine ⟨by simp only [List.length_cons, List.length_nil]; decide, fun b13 H_b13 s_b13 e_b13 n_b13 => ?_⟩
      refine ⟨by simp only [List.length_cons, List.length_nil]; decide, fun b14 H_b14 s_b14 e_b14 n_b14 => ?_⟩
      refine ⟨by simp only [List.length_cons, List.length_nil]; decide, fun b15 H_b15 s_b15 e_b15 n_b15 => ?_⟩
      refine ⟨by simp only [List.length_cons, List.length_nil]; decide, fun L8 H_L8 s_L8 e_L8 n_L8 => ?_⟩
      refine (c_EA _ rfl ?_)
      refine ⟨by simp only [List.length_cons, List.length_nil]; decide, fun g1 H_g1 s_g1 e_g1 n_g1 => ?_⟩
      refine (c_EA _ rfl (c_EA _ rfl (c_EEAA _ _ rfl rfl ⟨by simp only [List.length_cons, List.length_nil]; decide, fun g2 H_g2 s_g2 e_g2 n_g2 => ?_⟩)))
      refine ⟨by simp only [List.length_cons, List.length_nil]; decide, fun g3 H_g3 s_g3 e_g3 n_g3 => ?_⟩
      refine ⟨by simp only [List.length_cons, List.length_nil]; decide, fun g4 H_g4 s_g4 e_g4 n_g4 => ?_⟩
      refine ⟨by simp only [List.length_cons, List.length_nil]; decide, fun g5 H_g5 s_g5 e_g5 n_g5 => ?_⟩
      refine ⟨by simp only [List.length_cons, List.length_nil]; decide, fun g6 H_g6 s_g6 e_g6 n_g6 => ?_⟩
      refine ⟨by simp only [List.length_cons, List.length_nil]; decide, fun g7 H_g7 s_g7 e_g7 n_g7 => ?_⟩
      refine ⟨by simp only [List.length_cons, List.length_nil]; decide, fun g8 H_g8 s_g8 e_g8 n_g8 => ?_⟩
      refine ⟨by simp only [List.length_cons, List.length_nil]; decide, fun g9 H_g9 s_g9 e_g9 n_g9 => ?_⟩
      refine ⟨by simp only [List.length_cons, List.length_nil]; decide, fun g10 H_g10 s_g10 e_g10 n_g10 => ?_⟩
      refine ⟨by simp only [List.length_cons, List.length_nil]; decide, fun g11 H_g11 s_g11 e_g11 n_g11 => ?_⟩
      refine ⟨by simp only [List.length_cons, List.length_nil]; decide, fun L4 H_L4 s_L4 e_L4 n_L4 => ?_⟩
      have eL8 : H_L4 L8 = some _ := s_L4 _ _ (s_g11 _ _ (s_g10 _ _ (s_g9 _ _ (s_g8 _ _ (s_g7 _ _ (s_g6 _ _ (s_g5 _ _ (s_g4 _ _ (s_g3 _ _ (s_g2 _ _ (s_g1 _ _ e_L8)))))))))))
      refine (c_EEEEAAAAA L8 L4 _ _ rfl rfl eL8 e_L4 (by simp only [List.length_cons, List.length_nil]; decide) (fun L12 H_L12 s_L12 e_L12 n_L12 => ?_))
      have S_L4 := s_L12
      replace e_L4 := S_L4 _ _ e_L4
      have S_g11 := s_L4.trans S_L4
      replace e_g11 := S_g11 _ _ e_g11
      have S_g10 := s_g11.trans S_g11
      replace e_g10 := S_g10 _ _ e_g10
      have S_g9 := s_g10.trans S_g10
      replace e_g9 := S_g9 _ _ e_g9
      have S_g8 := s_g9.trans S_g9
      replace e_g8 := S_g8 _ _ e_g8
      have S_g7 := s_g8.trans S_g8
      replace e_g7 := S_g7 _ _ e_g7
      have S_g6 := s_g7.trans S_g7
      replace e_g6 := S_g6 _ _ e_g6
      have S_g5 := s_g6.trans S_g6
      replace e_g5 := S_g5 _ _ e_g5
      have S_g4 := s_g5.trans S_g5
      replace e_g4 := S_g4 _ _ e_g4
      have S_g3 := s_g4.trans S_g4
      replace e_g3 := S_g3 _ _ e_g3
      have S_g2 := s_g3.trans S_g3
      replace e_g2 := S_g2 _ _ e_g2
      have S_g1 := s_g2.trans S_g2
      replace e_g1 := S_g1 _ _ e_g1
      have S_L8 := s_g1.trans S_g1
      replace e_L8 := S_L8 _ _ e_L8
      have S_b15 := s_L8.trans S_L8
      replace e_b15 := S_b15 _ _ e_b15
      have S_b14 := s_b15.trans S_b15
      replace e_b14 := S_b14 _ _ e_b14
      have S_b13 := s_b14.trans S_b14
      replace e_b13 := S_b13 _ _ e_b13
      have S_b12 := s_b13.trans S_b13
      replace e_b12 := S_b12 _ _ e_b12
      have S_b11 := s_b12.trans S_b12
      replace e_b11 := S_b11 _ _ e_b11
      have S_b10 := s_b11.trans S_b11
      replace e_b10 := S_b10 _ _ e_b10
      have S_b9 := s_b10.trans S_b10
      replace e_b9 := S_b9 _ _ e_b9
      have S_b8 := s_b9.trans S_b9
      replace e_b8 := S_b8 _ _ e_b8
      have S_b7 := s_b8.trans S_b8
      replace e_b7 := S_b7 _ _ e_b7
      have S_b6 := s_b7.trans S_b7
      replace e_b6 := S_b6 _ _ e_b6
      have S_b5 := s_b6.trans S_b6
      replace e_b5 := S_b5 _ _ e_b5
      have S_b4 := s_b5.trans S_b5
      replace e_b4 := S_b4 _ _ e_b4
      have S_b3 := s_b4.trans S_b4
      replace e_b3 := S_b3 _ _ e_b3
      have S_b2 := s_b3.trans S_b3
      replace e_b2 := S_b2 _ _ e_b2
      have S_b1 := s_b2.trans S_b2
      replace e_b1 := S_b1 _ _ e_b1
      have sAll := s_b1.trans S_b1
      clear eL8
      obtain ⟨j, u, hat, hj⟩ := atmod (xs := [(.non : V), .ref b3, .str "0", .ref b5, .ref b8, .ref b11, .ref b14, .ref b15, .ref g3, .ref g6, .ref g9, .ref g11]) wh (by simp)
      have hu := List.mem_of_getElem? hj
      have Z : ∀ {t : Addr}, H_L12 t = some (.tup [.int 0, .int 0]) → Row1 H_L12 (.ref t) := fun e => row_tup e (by simp) (by simp [Plain])
      have bad : Rows1 H_L12 u ∧ (lenIs 2 H_L12 u && rowsB 2 H_L12 u) = false := by
        simp only [List.mem_cons, List.not_mem_nil, or_false] at hu
        rcases hu with rfl | rfl | rfl | rfl | rfl | rfl | rfl | rfl | rfl | rfl | rfl | rfl
        · exact deal_no trivial (fun a xs e => by cases e)
        · refine deal_no (.inr (.inl ⟨_, e_b3⟩)) (fun a xs z y => ?_)
          cases z
          rw [e_b3] at y
          cases y
        · exact deal_no trivial (fun a xs e => by cases e)
        · exact deal_len e_b5 (by simp) (by simp; exact Z e_b4) (by simp)
        · refine deal_len e_b8 ?_ (fun x hx => ?_) ?_
          · rw [len_rep]
            simp only [List.length_cons, List.length_nil]
            omega
          · have e : x = .ref b6 := by
              simp only [List.mem_flatten, List.mem_replicate] at hx
              obtain ⟨l, ⟨_, rfl⟩, hx⟩ := hx
              simpa using hx
            subst e
            exact Z e_b6
          · rw [len_rep]
            simp only [List.length_cons, List.length_nil]
            omega
        · have r : Row1 H_L12 (.ref b10) ∧ rowB 2 H_L12 (.ref b10) = false := bad_tup e_b10 (by simp) (by simp [Plain]) rfl
          exact deal_bad (x := .ref b10) e_b11 (by simp) (by simp; exact ⟨Z e_b9, r.1⟩) (by simp) r.2
        · have r : Row1 H_L12 (.ref b13) ∧ rowB 2 H_L12 (.ref b13) = false := bad_lst e_b13
          exact deal_bad (x := .ref b13) e_b14 (by simp) (by simp; exact ⟨Z e_b12, r.1⟩) (by simp) r.2
        · exact deal_len e_b15 (by simp) (by simp) (by simp)
        · have r : Row1 H_L12 (.ref g2) ∧ rowB 2 H_L12 (.ref g2) = false := bad_tup e_g2 (by simp) (by simp [Plain]) (by simp [neg])
          exact deal_bad (x := .ref g2) e_g3 (by simp) (by simp; exact ⟨Z e_g1, r.1⟩) (by simp) r.2
        · have r : Row1 H_L12 (.ref g4) ∧ rowB 2 H_L12 (.ref g4) = false := bad_tup e_g4 (by simp) (by simp [Plain]) rfl
          exact deal_bad (x := .ref g4) e_g6 (by simp) (by simp; exact ⟨r.1, Z e_g5⟩) (by simp) r.2
        · have r : Row1 H_L12 (.ref g8) ∧ rowB 2 H_L12 (.ref g8) = false := bad_tup e_g8 (by simp) (by simp [Plain]) rfl
          exact deal_bad (x := .ref g8) e_g9 (by simp) (by simp; exact ⟨Z e_g7, r.1⟩) (by simp) r.2
        · have r : Row1 H_L12 .non ∧ rowB 2 H_L12 .non = false := bad_non
          exact deal_bad (x := .non) e_g11 (by simp) (by simp; exact ⟨r.1, Z e_g10⟩) (by simp) r.2
      have B : BadL CL H_L12 E (.ref a) u := (c_AEEAAAA (by rw [rowsB_mono sAll rd]; exact gd) a _ rfl (sAll _ _ e_a) bad.1 bad.2 (fun H' s' => q H' (s_0.trans (sAll.trans s'))))
      have r9 := rd.mono sAll
      refine (c_EA _ rfl (c_EEAAA _ _ rfl rfl ⟨by decide, by decide⟩ (c_EEAAA _ _ rfl rfl (by show (0 : Int) < 3; decide) ?_)))
      refine (c_EA _ rfl (c_EEAAEA _ _ rfl rfl _ rfl (ite2 (fun _ => ?_) (fun _ => ?_))))
      · refine (c_EA _ rfl (c_AEA rfl _ rfl (ite2 (fun _ => ?_) (fun _ => ?_))))
        · exact (c_EA _ rfl (c_EA _ rfl (c_EA _ rfl (c_EEAAA _ _ rfl rfl (by show (0 : Int) < 12; decide) (c_EEEEAAAA L12 _ _ u rfl rfl (SqL.of e_L12) hat (c_EEAA _ u rfl r9 (.inr B)))))))
        · exact (c_EA _ rfl (c_EA _ rfl (c_EA _ rfl (c_EEAAA _ _ rfl rfl (by show (0 : Int) < 12; decide) (c_EEEEAAAA L12 _ _ u rfl rfl (SqL.of e_L12) hat (c_EEAA _ u rfl r9 (.inr B)))))))
      · exact (c_EA _ rfl (c_EA _ rfl (c_EA _ rfl (c_EEAAA _ _ rfl rfl (by show (0 : Int) < 12; decide) (c_EEEEAAAA L12 _ _ u rfl rfl (SqL.of e_L12) hat (c_EEEAA _ _ u rfl r9 (.inr (.inr (c_AA trivial rfl B)))))))))
    · refine (c_EA _ rfl (c_AEA rfl _ rfl (ite_ne (by decide) ?_)))
      refine (c_EA _ rfl (c_AEA rfl _ rfl (ite_ne (by decide) ?_)))
      refine (c_EA _ rfl (c_AEA rfl _ rfl (ite_is rfl ?_)))
      refine (c_EA _ rfl ?_)
      refine ⟨by simp only [List.length_cons, List.length_nil]; decide, fun l1 H_l1 s_l1 e_l1 n_l1 => ?_⟩
      refine (c_EA _ rfl (c_EA _ rfl (c_EEAA _ _ rfl rfl (c_EA _ rfl (c_EEAA _ _ rfl rfl ⟨by simp only [List.length_cons, List.length_nil]; decide, fun t1 H_t1 s_t1 e_t1 n_t1 => ?_⟩)))))
      refine ⟨by simp only [List.length_cons, List.length_nil]; decide, fun L7 H_L7 s_L7 e_L7 n_L7 => ?_⟩
      have S_t1 := s_L7
      replace e_t1 := S_t1 _ _ e_t1
      have S_l1 := s_t1.trans S_t1
      replace e_l1 := S_l1 _ _ e_l1
      have sAll := s_l1.trans S_l1
      obtain ⟨j, u, hat, hj⟩ := atmod (xs := [(.non : V), .str "0", .bl true, .ref l1, .int (-1 - mo), .int (2 + mo), .ref t1]) wh (by simp)
      have hu := List.mem_of_getElem? hj
      have bad : Plain H_L7 u ∧ cntB 2 u = false := by
        simp only [List.mem_cons, List.not_mem_nil, or_false] at hu
        rcases hu with rfl | rfl | rfl | rfl | rfl | rfl | rfl
        · exact ⟨trivial, rfl⟩
        · exact ⟨trivial, rfl⟩
        · exact ⟨trivial, rfl⟩
        · exact ⟨.inl ⟨_, e_l1⟩, rfl⟩
        · refine ⟨trivial, ?_⟩
          show (decide (0 ≤ -1 - mo) && decide (-1 - mo < 2)) = false
          rw [decide_eq_false (by omega), Bool.false_and]
        · refine ⟨trivial, ?_⟩
          show (decide (0 ≤ 2 + mo) && decide (2 + mo < 2)) = false
          rw [show decide (2 + mo < 2) = false from decide_eq_false (by omega), Bool.and_false]
        · exact ⟨.inr (.inl ⟨_, e_t1⟩), rfl⟩
      have B : BadC CB H_L7 E (.ref a) u := (c_AEEAAAA (by rw [rowsB_mono sAll rd]; exact gd) a _ rfl (sAll _ _ e_a) bad.1 bad.2 (fun H' s' => q H' (s_0.trans (sAll.trans s'))))
      exact (c_EA _ rfl (c_EEAAA _ _ rfl rfl (by show (0 : Int) < 7; decide) (c_EEEEAAAA L7 _ _ u rfl rfl (SqL.of e_L7) hat (c_EEEEAA _ _ u (.non) rfl (rd.mono sAll) (.inr (.inr (c_AA trivial rfl (.inl B))))))))
    · refine (c_EA _ rfl (c_AEA rfl _ rfl (ite_ne (by decide) ?_)))
      refine (c_EA _ rfl (c_AEA rfl _ rfl (ite_ne (by decide) ?_)))
      refine (c_EA _ rfl (c_AEA rfl _ rfl (ite_ne (by decide) ?_)))
      refine (c_EA _ rfl (c_EA _ rfl (c_EEAAA _ _ rfl rfl (by show (0 : Int) < 2; decide) ?_)))
      refine (c_EA _ rfl (c_EEAAA _ _ rfl rfl ⟨by decide, by decide⟩ (c_EA _ rfl (c_EEAA (wh / 2) mo rfl h0 (fun v Hv s_v r1 rb => ?_)))))
      have hm : 0 ≤ wh % 2 ∧ wh % 2 < 2 := by omega
      have B : BadO CD Hv E (.ref a) (.int (wh % 2)) v := (c_AEEAAAAAA (by rw [rowsB_mono s_v rd]; exact gd) a _ rfl (s_v _ _ e_a) trivial (by
        show (decide (0 ≤ wh % 2) && decide (wh % 2 < 2)) = true
        rw [decide_eq_true hm.1, decide_eq_true hm.2]
        rfl) r1 rb (fun H' s' => q H' (s_0.trans (s_v.trans s'))))
      exact (c_EEEEAA _ _ _ v rfl (rd.mono s_v) (.inr (.inr (c_AA trivial rfl (.inr B)))))
end
end Gs
unseal PySem.wpAny
set_option maxHeartbeats 8000000
/-! Of which classes a refusal is. -/
seal PySem.wpAny
namespace Gs
open PySem PySem.Spec PyProof.Rows L2
/-- isinstance(e, c), e the exception that is handled -/
theorem call_isiE {X : Cx} {a : Addr} {ob : Obj} (hp : (a, ob) ∈ X.pn) :
    CallR X (.builtin "isinstance") (fun xs H Q => ∃ C y b, ob.cls = .ref C ∧ ExcI X.K C ∧ xs = [.ref a, y] ∧ ((∃ c, y = .ref c ∧ PySem.W.kitOne X.K (.ref C) (.ref c) = some b) ∨ ∃ n, y = .ty n ∧ PySem.W.kitOne X.K (.ref C) (.type n) = some b) ∧ Q (.bl b) H) := by
  intro pins s σ H xs us Q I r h
  obtain ⟨C, y, b, hc, x, rfl, e, q⟩ := h
  rcases e with ⟨c, rfl, e⟩ | ⟨n, rfl, e⟩
  · exact call_isiX (x := x) hp hc pins s σ H _ us Q I r (c_EEEAA _ c b rfl (.inl ⟨rfl, e⟩) q)
  · exact call_isiX (x := x) hp hc pins s σ H _ us Q I r (c_EEEAA _ 0 b rfl (.inr (c_EA n rfl e)) q)
/-- the error classes of the text, and what isinstance answers of them -/
structure Kit (K : PySem.W.Frag) (CG CD CR CL CB : Addr) : Prop where
  iD : ExcI K CD
  iR : ExcI K CR
  iL : ExcI K CL
  iB : ExcI K CB
  gD : PySem.W.mroIn K CD (.ref CG) = some true
  gR : PySem.W.mroIn K CR (.ref CG) = some true
  gL : PySem.W.mroIn K CL (.ref CG) = some true
  gB : PySem.W.mroIn K CB (.ref CG) = some true
  dd : PySem.W.kitOne K (.ref CD) (.ref CD) = some true
  dr : PySem.W.kitOne K (.ref CD) (.ref CR) = some false
  dl : PySem.W.kitOne K (.ref CD) (.ref CL) = some false
  db : PySem.W.kitOne K (.ref CD) (.ref CB) = some false
  rd : PySem.W.kitOne K (.ref CR) (.ref CD) = some false
  rr : PySem.W.kitOne K (.ref CR) (.ref CR) = some true
  rl : PySem.W.kitOne K (.ref CR) (.ref CL) = some false
  rb : PySem.W.kitOne K (.ref CR) (.ref CB) = some false
  ld : PySem.W.kitOne K (.ref CL) (.ref CD) = some false
  lr : PySem.W.kitOne K (.ref CL) (.ref CR) = some false
  ll : PySem.W.kitOne K (.ref CL) (.ref CL) = some true
  lb : PySem.W.kitOne K (.ref CL) (.ref CB) = some false
  bd : PySem.W.kitOne K (.ref CB) (.ref CD) = some false
  br : PySem.W.kitOne K (.ref CB) (.ref CR) = some false
  bl : PySem.W.kitOne K (.ref CB) (.ref CL) = some false
  bb : PySem.W.kitOne K (.ref CB) (.ref CB) = some true
  vd : PySem.W.kitOne K (.ref CD) (.type "ValueError") = some true
  vr : PySem.W.kitOne K (.ref CR) (.type "ValueError") = some true
  vl : PySem.W.kitOne K (.ref CL) (.type "ValueError") = some true
  vb : PySem.W.kitOne K (.ref CB) (.type "ValueError") = some true
/-- the class that is due, and the row of answers -/
def clsOf (CD CR CL CB : Addr) (k : Int) : Addr := if k = 1 then CR else if k = 2 then CL else if k = 3 then CB else CD
def dueOf (k : Int) : List V := [.bl (decide (k = 0) || decide (k = 4)), .bl (decide (k = 1)), .bl (decide (k = 2)), .bl (decide (k = 3)), .bl true]
structure Ans (K : PySem.W.Frag) (CG CD CR CL CB C : Addr) (k : Int) : Prop where
  i : ExcI K C
  g : PySem.W.mroIn K C (.ref CG) = some true
  d : PySem.W.kitOne K (.ref C) (.ref CD) = some (decide (k = 0) || decide (k = 4))
  r : PySem.W.kitOne K (.ref C) (.ref CR) = some (decide (k = 1))
  l : PySem.W.kitOne K (.ref C) (.ref CL) = some (decide (k = 2))
  b : PySem.W.kitOne K (.ref C) (.ref CB) = some (decide (k = 3))
  v : PySem.W.kitOne K (.ref C) (.type "ValueError") = some true
theorem Kit.ans {K : PySem.W.Frag} {CG CD CR CL CB : Addr} (t : Kit K CG CD CR CL CB) {k : Int} (h0 : 0 ≤ k) (h5 : k < 5) : Ans K CG CD CR CL CB (clsOf CD CR CL CB k) k := by
  have h : k = 0 ∨ k = 1 ∨ k = 2 ∨ k = 3 ∨ k = 4 := by omega
  rcases h with rfl | rfl | rfl | rfl | rfl
  · exact ⟨t.iD, t.gD, t.dd, t.dr, t.dl, t.db, t.vd⟩
  · exact ⟨t.iR, t.gR, t.rd, t.rr, t.rl, t.rb, t.vr⟩
  · exact ⟨t.iL, t.gL, t.ld, t.lr, t.ll, t.lb, t.vl⟩
  · exact ⟨t.iB, t.gB, t.bd, t.br, t.bl, t.bb, t.vb⟩
  · exact ⟨t.iD, t.gD, t.dd, t.dr, t.dl, t.db, t.vd⟩
abbrev s__law_told : Stmt := top 57
theorem sc__law_told : FnScope ["_law_kind", "_law_which", "_law_more", "error", "_law_found"] ["_law_kind", "_law_which", "_law_more"] (defScope s__law_told) := ⟨rfl, rfl, rfl, by decide +kernel, rfl, by decide +kernel, by decide +kernel⟩
def st_told : Sp := fun vs H Q _ => ∃ k wh mo : Int, vs = [.int k, .int wh, .int mo] ∧ 0 ≤ k ∧ k < 5 ∧ 0 ≤ mo ∧ ∀ p H', Same H H' → H' p = some (.lst (dueOf k)) → Q (.ref p) H'
theorem boot_VE : bootBuiltins "ValueError" = some (.type "ValueError") := by decide +kernel
section
variable {P : Program} {w : World} {K : PySem.W.Frag} {mg : Str → Option Value} {base : Heap} {f : Addr} {fd : FuncData}
theorem ok__law_told {CG CD CR CL CB f1 f2 : Addr} {fd1 fd2 : FuncData} (F : Fun K "_law_told" "_law_told" s__law_told f fd) (T : Txt mg) (nVE : mg "ValueError" = none)
    (XG : ExcC K mg "GrainError" CG) (XD : ExcC K mg "BadDays" CD) (XR : ExcC K mg "BadRoom" CR) (XL : ExcC K mg "BadDealing" CL) (XB : ExcC K mg "BadDay" CB) (t : Kit K CG CD CR CL CB)
    (D1 : Def K mg "_law_days_asked" ["_law_which", "_law_more"] f1 fd1) (G1 : FnOk P w K mg base (CXr P w) 7 f1 fd1 ["_law_which", "_law_more"] (sd_days CD))
    (D2 : Def K mg "_law_others_asked" ["_law_kind", "_law_which", "_law_more"] f2 fd2) (G2 : FnOk P w K mg base (CXr P w) 7 f2 fd2 ["_law_kind", "_law_which", "_law_more"] (so_others CD CR CL CB)) :
    FnOk P w K mg base CX0 8 f fd ["_law_kind", "_law_which", "_law_more"] st_told := by
  refine F.ok sc__law_told (fun vs H Q E h => ?_) (fun cdv A outer s H vs Q E hr h => ?_)
  · obtain ⟨k, wh, mo, rfl, _⟩ := h
    rfl
  · obtain ⟨k, wh, mo, rfl, k0, k5, h0, q⟩ := h
    have an := t.ans k0 k5
    refine' (c_EA _ (pss_cons (ps_try (i := 3) (E := fun c _ H' => Same H H' ∧ c = .ref (clsOf CD CR CL CB k)) rfl rfl rfl XG sc__law_told.nd rfl rfl ?body ?suite)
    (pss_one (ps_ret (pe_lstW pa_nil)))) ?_)
    case body =>
      exact fun pins => (pss_one (ps_if (pt_cmpR op_eq (pv 0) pe_int (nomark _))
        (pss_one (ps_expr (pe_callC G1 hr rfl D1.m D1.k D1.b .nil pass_try (pa_c (pv 1) (pa_c (pv 2) pa_nil)))))
        (pss_one (ps_expr (pe_callC G2 hr rfl D2.m D2.k D2.b .nil pass_try (pa_c (pv 0) (pa_c (pv 1) (pa_c (pv 2) pa_nil))))))))
    case suite =>
      exact fun a ob => (pss_cons (ps_set (i := 4) sc__law_told.nd rfl (Or.inl rfl) (pe_lstW
          (pa_c (pe_callBC (call_isiE (a := a) (ob := ob) (List.mem_append_right _ (List.mem_singleton.mpr rfl))) rfl T.n_isinstance boot_isinstance (pa_c (pv 3) (pa_c (pe_glob (v := .ref CD) rfl XD.m rfl) pa_nil)))
          (pa_c (pe_callBC (call_isiE (a := a) (ob := ob) (List.mem_append_right _ (List.mem_singleton.mpr rfl))) rfl T.n_isinstance boot_isinstance (pa_c (pv 3) (pa_c (pe_glob (v := .ref CR) rfl XR.m rfl) pa_nil)))
          (pa_c (pe_callBC (call_isiE (a := a) (ob := ob) (List.mem_append_right _ (List.mem_singleton.mpr rfl))) rfl T.n_isinstance boot_isinstance (pa_c (pv 3) (pa_c (pe_glob (v := .ref CL) rfl XL.m rfl) pa_nil))) pa_nil)))))
        (pss_one (ps_ret (pe_op op_catW (pv 4) (pe_lstW
          (pa_c (pe_callBC (call_isiE (a := a) (ob := ob) (List.mem_append_right _ (List.mem_singleton.mpr rfl))) rfl T.n_isinstance boot_isinstance (pa_c (pv 3) (pa_c (pe_glob (v := .ref CB) rfl XB.m rfl) pa_nil)))
          (pa_c (pe_callBC (call_isiE (a := a) (ob := ob) (List.mem_append_right _ (List.mem_singleton.mpr rfl))) rfl T.n_isinstance boot_isinstance (pa_c (pv 3) (pa_c (pe_bltn (v := .ty "ValueError") rfl nVE boot_VE rfl) pa_nil))) pa_nil)))))))
    refine ⟨?_, fun a ob C H' hc hn he => ?_⟩
    · refine (c_EA _ rfl (c_AEA rfl _ rfl (ite2 (fun hk => ?_) (fun hk => ?_))))
      · have e : k = 0 := by injection (of_decide_eq_true hk)
        subst e
        exact (c_EA _ rfl (c_EA _ rfl (c_EEAA wh mo rfl h0 (fun H' s' => ⟨s', rfl⟩))))
      · have e : k ≠ 0 := fun z => hk (by rw [z]; exact decide_eq_true rfl)
        refine (c_EA _ rfl (c_EA _ rfl (c_EA _ rfl (c_EEEAA k wh mo rfl h0 ?_))))
        have h : k = 1 ∨ k = 2 ∨ k = 3 ∨ k = 4 := by omega
        rcases h with rfl | rfl | rfl | rfl
        · exact .inl ⟨rfl, fun H' s' => ⟨s', rfl⟩⟩
        · exact .inr (.inl ⟨rfl, fun H' s' => ⟨s', rfl⟩⟩)
        · exact .inr (.inr (.inl ⟨rfl, fun H' s' => ⟨s', rfl⟩⟩))
        · exact .inr (.inr (.inr ⟨rfl, fun H' s' => ⟨s', rfl⟩⟩))
    · obtain ⟨s1, e⟩ := he
      have eC : C = clsOf CD CR CL CB k := by injection e
      rw [← eC] at an
      refine ⟨an.g, ?_⟩
      refine (c_EA _ rfl (c_EEEAAAA C _ _ hc an.i rfl (.inl (c_EA _ rfl an.d)) ?_))
      refine (c_EA _ rfl (c_EEEAAAA C _ _ hc an.i rfl (.inl (c_EA _ rfl an.r)) ?_))
      refine (c_EA _ rfl (c_EEEAAAA C _ _ hc an.i rfl (.inl (c_EA _ rfl an.l)) ?_))
      refine ⟨by simp only [List.length_cons, List.length_nil]; decide, fun p1 H1 s_1 e_1 n_1 => ?_⟩
      refine (c_EA _ rfl ?_)
      refine (c_EA _ rfl (c_EEEAAAA C _ _ hc an.i rfl (.inl (c_EA _ rfl an.b)) ?_))
      refine (c_EA _ rfl (c_EEEAAAA C _ _ hc an.i rfl (.inr (c_EA _ rfl an.v)) ?_))
      refine ⟨by simp only [List.length_cons, List.length_nil]; decide, fun p2 H2 s_2 e_2 n_2 => ?_⟩
      refine (c_EEEEAAAAA p1 p2 _ _ rfl rfl (s_2 _ _ e_1) e_2 (by simp only [List.length_cons, List.length_nil]; decide) (fun p3 H3 s_3 e_3 n_3 => ?_))
      exact q p3 H3 (s1.trans (s_1.trans (s_2.trans s_3))) e_3
end
end Gs
unseal PySem.wpAny
set_option maxHeartbeats 8000000
/-! The law of refusals. -/
seal PySem.wpAny
namespace Gs
open PySem PySem.Spec PyProof.Rows L2
abbrev s_law : Stmt := top 58
theorem sc_law : FnScope ["_law_script", "_law_cell", "_law_kind", "_law_due"] ["_law_script"] (defScope s_law) := ⟨rfl, rfl, rfl, by decide +kernel, rfl, by decide +kernel, by decide +kernel⟩
def sp_law (K : PySem.W.Frag) : Sp := fun vs H Q _ => ∃ (a : Addr) (ns : List Int), vs = [.ref a] ∧ SqL K H a (ns.map V.int) ∧ ns.length ≤ 63 ∧ ∀ H', Q (.bl true) H'
theorem due_eq {k : Int} (h0 : 0 ≤ k) (h5 : k < 5) : [V.bl (inV (.int k) [.int 0, .int 4]), .bl (decide (V.int k = V.int 1)), .bl (decide (V.int k = V.int 2)), .bl (decide (V.int k = V.int 3)), .bl true] = dueOf k := by
  have h : k = 0 ∨ k = 1 ∨ k = 2 ∨ k = 3 ∨ k = 4 := by omega
  rcases h with rfl | rfl | rfl | rfl | rfl <;> decide
theorem row1 {H : Hp} {l t : Addr} {r : Row} {vs : List V} (e : r.map V.int = vs) (hl : H l = some (.lst [.ref t])) (ht : H t = some (.tup vs)) : RowsAt H l [r] := by
  subst e
  refine (c_EA ([.ref t]) hl ⟨rfl, fun i v q h1 h2 => ?_⟩)
  cases i with
  | zero =>
    cases h1
    cases h2
    exact (c_EA t rfl ht)
  | succ i => simp at h1
theorem gone {n : Nat} {r : Row} (h : Good n r) : ∀ x ∈ [r], Good n x := fun x hx => by
  have e : x = r := by simpa using hx
  subst e
  exact h
section
variable {P : Program} {w : World} {K : PySem.W.Frag} {mg : Str → Option Value} {base : Heap} {f : Addr} {fd : FuncData}
theorem ok_law {f1 f2 f3 : Addr} {fd1 fd2 fd3 : FuncData} (F : Fun K "law" "law" s_law f fd)
    (D1 : Def K mg "_law_told" ["_law_kind", "_law_which", "_law_more"] f1 fd1) (G1 : FnOk P w K mg base CX0 8 f1 fd1 ["_law_kind", "_law_which", "_law_more"] st_told)
    (D2 : Def K mg "barred" ["days", "room", "dealing"] f2 fd2) (G2 : FnOk P w K mg base CX0 5 f2 fd2 ["days", "room", "dealing"] sp_barred)
    (D3 : Def K mg "stored" ["days", "dealing"] f3 fd3) (G3 : FnOk P w K mg base CX0 5 f3 fd3 ["days", "dealing"] sp_stored) :
    FnOk P w K mg base CX0 9 f fd ["_law_script"] (sp_law K) := by
  replace G2 := G2.mono (show 5 ≤ 8 by decide)
  replace G3 := G3.mono (show 5 ≤ 8 by decide)
  refine F.ok sc_law (fun vs H Q E h => ?_) (fun cdv A outer s H vs Q E hr h => ?_)
  · obtain ⟨a, ns, rfl, _⟩ := h
    rfl
  · obtain ⟨a, ns, rfl, hS, h63, q⟩ := h
    have hu8 : (A.deeper (envOfC "law" (defScope s_law) s.heap.objs.size f cdv)).units + 8 < cLine := by have := hr.units; omega
    refine (c_EA _ (pss_cons (ps_for PassesOwn.never rfl (pi_list (pv 0)) (pg_name (i := 1) sc_law.nd rfl (Or.inl rfl))
      (pss_cons (ps_set (i := 2) sc_law.nd rfl (Or.inl rfl) (pe_op op_mod (pv 1) pe_int))
      (pss_cons (ps_set (i := 3) sc_law.nd rfl (Or.inl rfl) (pe_lstW (pa_c (pe_cmpR op_in_seq (pv 2) (pe_lstW (pa_c pe_int (pa_c pe_int pa_nil))) (by with_unfolding_all rfl)) (pa_c (pe_cmpR op_eq (pv 2) pe_int (nomark _)) (pa_c (pe_cmpR op_eq (pv 2) pe_int (nomark _)) (pa_c (pe_cmpR op_eq (pv 2) pe_int (nomark _)) (pa_c pe_bl pa_nil)))))))
      (pss_one (ps_if (pt_cmpR (op_neD hu8) (pe_callC G1 hr rfl D1.m D1.k D1.b .nil pass0 (pa_c (pv 2) (pa_c (pe_op op_mod (pe_op op_fdiv (pv 1) pe_int) pe_int) (pa_c (pe_op op_mod (pe_op op_fdiv (pv 1) pe_int) pe_int) pa_nil)))) (pv 3) (nomark _))
        (pss_one (ps_ret pe_bl))
        pss_nil)))))
    (pss_cons (ps_if (PW.pt (pw_or (pt_cmpR op_ne (pe_callC G2 hr rfl D2.m D2.k D2.b .nil pass0 (pa_c (pe_lstW (pa_c (pe_tupW (pa_c pe_int (pa_c pe_int (pa_c pe_int (pa_c pe_int pa_nil))))) pa_nil)) (pa_c pe_int (pa_c (pe_lstW (pa_c (pe_tupW (pa_c pe_int (pa_c pe_int pa_nil))) pa_nil)) pa_nil)))) pe_int (nomark _)) (pw_or1 (pt_cmpR op_ne (pe_callC G2 hr rfl D2.m D2.k D2.b .nil pass0 (pa_c (pe_lstW (pa_c (pe_tupW (pa_c pe_int (pa_c pe_int (pa_c pe_int (pa_c pe_int pa_nil))))) pa_nil)) (pa_c pe_int (pa_c (pe_lstW (pa_c (pe_tupW (pa_c pe_int (pa_c pe_int pa_nil))) pa_nil)) pa_nil)))) (pe_un un_neg pe_int) (nomark _)))))
      (pss_one (ps_ret pe_bl))
      pss_nil)
    (pss_one (ps_ret (pe_and (pe_cmpR (op_eqD hu8) (pe_callC G3 hr rfl D3.m D3.k D3.b .nil pass0 (pa_c (pe_lstW (pa_c (pe_tupW (pa_c pe_int (pa_c pe_int (pa_c pe_int (pa_c pe_int pa_nil))))) pa_nil)) (pa_c (pe_lstW (pa_c (pe_tupW (pa_c pe_int (pa_c pe_int pa_nil))) pa_nil)) pa_nil))) (pe_lstW (pa_c pe_int pa_nil)) (nomark _)) (pe_one (pe_cmpR op_eq (pe_callC G2 hr rfl D2.m D2.k D2.b .nil pass0 (pa_c (pe_lstW (pa_c (pe_tupW (pa_c pe_int (pa_c pe_int (pa_c pe_int (pa_c pe_int pa_nil))))) pa_nil)) (pa_c pe_int (pa_c (pe_lstW (pa_c (pe_tupW (pa_c pe_int (pa_c pe_int pa_nil))) pa_nil)) pa_nil)))) pe_int (nomark _)))))))) ?_)
    refine (c_EAEAA _ rfl a rfl ⟨_, hS⟩ (for_cnt (cnt_list (xs := ns.map V.int)) (fun i σ H2 => Same H H2 ∧ ∃ o1 o2 o3, σ = [some (.ref a), o1, o2, o3]) (c_AEEE (Same.refl H) _ _ _ rfl) (fun i σ H2 _ p => p.1.seq hS) ?_ ?_))
    · rintro i x σ H2 H3 hi ⟨s2, o1, o2, o3, rfl⟩ ⟨rfl, hx⟩
      obtain ⟨n, rfl⟩ : ∃ n, x = V.int n := by
        rw [List.getElem?_map] at hx
        cases e : ns[i]? with
        | none => rw [e] at hx; cases hx
        | some n => rw [e] at hx; exact ⟨n, (Option.some.inj hx).symm⟩
      have k0 : 0 ≤ n % 5 := by omega
      have k5 : n % 5 < 5 := by omega
      have m0 : 0 ≤ n / 500000 % 1000 := by omega
      refine (c_EA _ rfl (c_EEAAA _ _ rfl rfl (by show (0 : Int) < 5; decide) ?_))
      refine (c_EA _ rfl ⟨by simp only [List.length_cons, List.length_nil]; decide, fun l H4 s_4 e_4 n_4 => (c_EEAAAA l _ rfl (.inl (SqL.of e_4)) rfl rfl ?_)⟩)
      refine (c_EA _ rfl ⟨rfl, (c_EA _ rfl ⟨rfl, (c_EA _ rfl ⟨rfl, ⟨by simp only [List.length_cons, List.length_nil]; decide, fun d H5 s_5 e_5 n_5 => ?_⟩⟩)⟩)⟩)
      refine (c_EA _ rfl (c_EA _ rfl (c_EEAAA _ _ rfl rfl ⟨by decide, by decide⟩ (c_EEAAA _ _ rfl rfl (by show (0 : Int) < 100000; decide) ?_))))
      refine (c_EA _ rfl (c_EEAAA _ _ rfl rfl ⟨by decide, by decide⟩ (c_EEAAA _ _ rfl rfl (by show (0 : Int) < 1000; decide) ?_)))
      refine (c_EEEAAAA (n % 5) (n / 5 % 100000) (n / 500000 % 1000) rfl k0 k5 m0 (fun p H6 s_6 e_6 => ?_))
      have e_d := s_6 _ _ e_5
      rw [show (if false = true then !inV (V.int (n % 5)) [V.int 0, V.int 4] else inV (V.int (n % 5)) [V.int 0, V.int 4]) = inV (V.int (n % 5)) [V.int 0, V.int 4] from rfl, due_eq k0 k5] at e_d
      refine (c_EA _ rfl (c_EEEEEAAAAAEA p d _ _ true rfl rfl (SqL.of e_6) (SqL.of e_d) (LEq.refl1 (fun x hx => ?_)) _ rfl (iteF ?_)))
      · simp only [dueOf, List.mem_cons, List.not_mem_nil, or_false] at hx
        rcases hx with rfl | rfl | rfl | rfl | rfl <;> rfl
      · exact (c_AEEE (s2.trans (s_4.trans (s_5.trans s_6))) _ _ _ rfl)
    · rintro σ H2 ⟨s2, o1, o2, o3, rfl⟩
      refine ⟨by simp only [List.length_cons, List.length_nil]; decide, fun t1 H3 s_3 e_3 n_3 => ⟨by simp only [List.length_cons, List.length_nil]; decide, fun l1 H4 s_4 e_4 n_4 => ?_⟩⟩
      refine ⟨by simp only [List.length_cons, List.length_nil]; decide, fun t2 H5 s_5 e_5 n_5 => ⟨by simp only [List.length_cons, List.length_nil]; decide, fun l2 H6 s_6 e_6 n_6 => ?_⟩⟩
      refine (c_EEEEEAAAAAAAA l1 l2 9 ([[0, 2, 0, 9]]) ([[3, 0]]) rfl (row1 rfl (s_6 _ _ (s_5 _ _ e_4)) (s_6 _ _ (s_5 _ _ (s_4 _ _ e_3)))) (row1 rfl e_6 (s_6 _ _ e_5)) rfl (gone ⟨rfl, by decide⟩) (gone ⟨rfl, by decide⟩) (by decide) (by decide) (fun H7 s_7 => ?_))
      refine (c_AEA rfl _ rfl ?_)
      refine iteF ?_
      refine ⟨by simp only [List.length_cons, List.length_nil]; decide, fun t3 H8 s_8 e_8 n_8 => ⟨by simp only [List.length_cons, List.length_nil]; decide, fun l3 H9 s_9 e_9 n_9 => ?_⟩⟩
      refine ⟨by simp only [List.length_cons, List.length_nil]; decide, fun t4 Ha s_a e_a n_a => ⟨by simp only [List.length_cons, List.length_nil]; decide, fun l4 Hb s_b e_b n_b => ?_⟩⟩
      refine (c_EEEEEAAAAAAAA l3 l4 9 ([[0, 2, 0, 9]]) ([[2, 0]]) rfl (row1 rfl (s_b _ _ (s_a _ _ e_9)) (s_b _ _ (s_a _ _ (s_9 _ _ e_8)))) (row1 rfl e_b (s_b _ _ e_a)) rfl (gone ⟨rfl, by decide⟩) (gone ⟨rfl, by decide⟩) (by decide) (by decide) (fun Hc s_c => ?_))
      refine (c_EA _ rfl (c_AEA rfl _ rfl (iteF ?_)))
      refine ⟨by simp only [List.length_cons, List.length_nil]; decide, fun t5 Hd s_d e_d n_d => ⟨by simp only [List.length_cons, List.length_nil]; decide, fun l5 He s_e e_e n_e => ?_⟩⟩
      refine ⟨by simp only [List.length_cons, List.length_nil]; decide, fun t6 Hf s_f e_f n_f => ⟨by simp only [List.length_cons, List.length_nil]; decide, fun l6 Hg s_g e_g n_g => ?_⟩⟩
      refine (c_EEEEAAAAAAA l5 l6 ([[0, 0, 0, 0]]) ([[9, 4]]) rfl (row1 rfl (s_g _ _ (s_f _ _ e_e)) (s_g _ _ (s_f _ _ (s_e _ _ e_d)))) (row1 rfl e_g (s_g _ _ e_f)) rfl (gone ⟨rfl, by decide⟩) (gone ⟨rfl, by decide⟩) (by decide) (fun p Hh n_p s_h e_p => ?_))
      refine ⟨by simp only [List.length_cons, List.length_nil]; decide, fun m Hi s_i e_i n_i => ?_⟩
      refine (c_EEEEEAAAAAEA p m (([5] : List Int).map V.int) (([5] : List Int).map V.int) _ rfl rfl (SqL.of (s_i _ _ e_p)) (SqL.of e_i) (LEq.nums [5] [5]) true rfl (iteT ?_))
      refine ⟨by simp only [List.length_cons, List.length_nil]; decide, fun t7 Hj s_j e_j n_j => ⟨by simp only [List.length_cons, List.length_nil]; decide, fun l7 Hk s_k e_k n_k => ?_⟩⟩
      refine ⟨by simp only [List.length_cons, List.length_nil]; decide, fun t8 Hl s_l e_l n_l => ⟨by simp only [List.length_cons, List.length_nil]; decide, fun l8 Hm s_m e_m n_m => ?_⟩⟩
      refine (c_EEEEEAAAAAAAA l7 l8 4 ([[0, 9, 0, 9]]) ([[9, 4]]) rfl (row1 rfl (s_m _ _ (s_l _ _ e_k)) (s_m _ _ (s_l _ _ (s_k _ _ e_j)))) (row1 rfl e_m (s_m _ _ e_l)) rfl (gone ⟨rfl, by decide⟩) (gone ⟨rfl, by decide⟩) (by decide) (by decide) (fun Hn s_n => ?_))
      exact ⟨rfl, q Hn⟩
end
end Gs
unseal PySem.wpAny
def PySem.W.Fast.tw16523684822511273001 : PySem.Params → PySem.W.Frag := fun _ => []
theorem PySem.W.Fast.te16523684822511273001 : (fun _ => [] : PySem.Params → PySem.W.Frag) = PySem.W.Fast.tw16523684822511273001 := rfl
namespace Gs
open PySem L2
theorem bd1 {us : List Value} {fd : FuncData} {p : List Str} (hl : us.length = 1) (h : ∀ u1 : Value, bindArgs fd { pos := [u1] } = pure (p.zip [u1])) : bindArgs fd { pos := us } = pure (p.zip us) := by
  match us, hl with
  | [u1], _ => exact h u1
theorem bd2 {us : List Value} {fd : FuncData} {p : List Str} (hl : us.length = 2) (h : ∀ u1 u2 : Value, bindArgs fd { pos := [u1, u2] } = pure (p.zip [u1, u2])) : bindArgs fd { pos := us } = pure (p.zip us) := by
  match us, hl with
  | [u1, u2], _ => exact h u1 u2
theorem bd3 {us : List Value} {fd : FuncData} {p : List Str} (hl : us.length = 3) (h : ∀ u1 u2 u3 : Value, bindArgs fd { pos := [u1, u2, u3] } = pure (p.zip [u1, u2, u3])) : bindArgs fd { pos := us } = pure (p.zip us) := by
  match us, hl with
  | [u1, u2, u3], _ => exact h u1 u2 u3
theorem bd4 {us : List Value} {fd : FuncData} {p : List Str} (hl : us.length = 4) (h : ∀ u1 u2 u3 u4 : Value, bindArgs fd { pos := [u1, u2, u3, u4] } = pure (p.zip [u1, u2, u3, u4])) : bindArgs fd { pos := us } = pure (p.zip us) := by
  match us, hl with
  | [u1, u2, u3, u4], _ => exact h u1 u2 u3 u4
set_option maxHeartbeats 8000000 in
theorem all_mk {l : PySem.W.OpenLaw} {w : World} {K : PySem.W.Frag} {h : Heap} {mg : Str → Option Value} {fa f1 f2 f3 f4 f5 f6 f7 f8 f9 f10 f11 f12 f13 f14 f15 f16 f17 f18 f19 f20 f21 f22 cG cD cR cL cB : Addr} (X : K.In h) (G : h.Ns mainGlobals mg) (hfa : mg "law" = some (.ref fa))
    {od1 an1 od2 an2 od3 an3 od4 an4 od5 an5 od6 an6 od7 an7 od8 an8 od9 an9 od10 an10 od11 an11 od12 an12 od13 an13 od14 an14 od15 an15 od16 an16 od17 an17 od18 an18 od19 an19 od20 an20 od21 an21 od22 an22 : Option Addr} {sl1 sl2 sl3 sl4 sl5 sl6 sl7 sl8 sl9 sl10 sl11 sl12 sl13 sl14 sl15 sl16 sl17 sl18 sl19 sl20 sl21 sl22 : Array (Option Value)} {oc1 kV1 dc1 pm1 cd1 ct1 oc2 kV2 dc2 pm2 cd2 ct2 oc3 kV3 dc3 pm3 cd3 ct3 oc4 kV4 dc4 pm4 cd4 ct4 oc5 kV5 dc5 pm5 cd5 ct5 oc6 kV6 dc6 pm6 cd6 ct6 oc7 kV7 dc7 pm7 cd7 ct7 oc8 kV8 dc8 pm8 cd8 ct8 oc9 kV9 dc9 pm9 cd9 ct9 oc10 kV10 dc10 pm10 cd10 ct10 oc11 kV11 dc11 pm11 cd11 ct11 oc12 kV12 dc12 pm12 cd12 ct12 oc13 kV13 dc13 pm13 cd13 ct13 oc14 kV14 dc14 pm14 cd14 ct14 oc15 kV15 dc15 pm15 cd15 ct15 oc16 kV16 dc16 pm16 cd16 ct16 oc17 kV17 dc17 pm17 cd17 ct17 oc18 kV18 dc18 pm18 cd18 ct18 oc19 kV19 dc19 pm19 cd19 ct19 oc20 kV20 dc20 pm20 cd20 ct20 oc21 kV21 dc21 pm21 cd21 ct21 oc22 kV22 dc22 pm22 cd22 ct22 : Value} {tk1 tk2 tk3 tk4 tk5 tk6 : Tok}
    (a1 : PySem.W.nsIn K mainGlobals "is_amount" = some (some (.ref f1))) (l1 : K.lookup f1 = some ⟨oc1, od1, .func (PySem.W.fnOf "is_amount" "is_amount" (defArgs s_is_amount) (defBody s_is_amount) (defScope s_is_amount) .none kV1 dc1 pm1 an1 cd1 ct1), sl1⟩) (c1 : PySem.W.codeIn K cd1 "is_amount" = true) (k1 : PySem.W.keepIn K (.ref f1) = true)
    (a2 : PySem.W.nsIn K mainGlobals "is_tuple_of_amounts" = some (some (.ref f2))) (l2 : K.lookup f2 = some ⟨oc2, od2, .func (PySem.W.fnOf "is_tuple_of_amounts" "is_tuple_of_amounts" (defArgs s_is_tuple_of_amounts) (defBody s_is_tuple_of_amounts) (defScope s_is_tuple_of_amounts) .none kV2 dc2 pm2 an2 cd2 ct2), sl2⟩) (c2 : PySem.W.codeIn K cd2 "is_tuple_of_amounts" = true) (k2 : PySem.W.keepIn K (.ref f2) = true)
    (a3 : PySem.W.nsIn K mainGlobals "is_day" = some (some (.ref f3))) (l3 : K.lookup f3 = some ⟨oc3, od3, .func (PySem.W.fnOf "is_day" "is_day" (defArgs s_is_day) (defBody s_is_day) (defScope s_is_day) .none kV3 dc3 pm3 an3 cd3 ct3), sl3⟩) (c3 : PySem.W.codeIn K cd3 "is_day" = true) (k3 : PySem.W.keepIn K (.ref f3) = true)
    (a4 : PySem.W.nsIn K mainGlobals "is_deed" = some (some (.ref f4))) (l4 : K.lookup f4 = some ⟨oc4, od4, .func (PySem.W.fnOf "is_deed" "is_deed" (defArgs s_is_deed) (defBody s_is_deed) (defScope s_is_deed) .none kV4 dc4 pm4 an4 cd4 ct4), sl4⟩) (c4 : PySem.W.codeIn K cd4 "is_deed" = true) (k4 : PySem.W.keepIn K (.ref f4) = true)
    (a5 : PySem.W.nsIn K mainGlobals "check_days" = some (some (.ref f5))) (l5 : K.lookup f5 = some ⟨oc5, od5, .func (PySem.W.fnOf "check_days" "check_days" (defArgs s_check_days) (defBody s_check_days) (defScope s_check_days) .none kV5 dc5 pm5 an5 cd5 ct5), sl5⟩) (c5 : PySem.W.codeIn K cd5 "check_days" = true) (k5 : PySem.W.keepIn K (.ref f5) = true)
    (a6 : PySem.W.nsIn K mainGlobals "check_room" = some (some (.ref f6))) (l6 : K.lookup f6 = some ⟨oc6, od6, .func (PySem.W.fnOf "check_room" "check_room" (defArgs s_check_room) (defBody s_check_room) (defScope s_check_room) .none kV6 dc6 pm6 an6 cd6 ct6), sl6⟩) (c6 : PySem.W.codeIn K cd6 "check_room" = true) (k6 : PySem.W.keepIn K (.ref f6) = true)
    (a7 : PySem.W.nsIn K mainGlobals "check_dealing" = some (some (.ref f7))) (l7 : K.lookup f7 = some ⟨oc7, od7, .func (PySem.W.fnOf "check_dealing" "check_dealing" (defArgs s_check_dealing) (defBody s_check_dealing) (defScope s_check_dealing) .none kV7 dc7 pm7 an7 cd7 ct7), sl7⟩) (c7 : PySem.W.codeIn K cd7 "check_dealing" = true) (k7 : PySem.W.keepIn K (.ref f7) = true)
    (a8 : PySem.W.nsIn K mainGlobals "stored_behind_each" = some (some (.ref f8))) (l8 : K.lookup f8 = some ⟨oc8, od8, .func (PySem.W.fnOf "stored_behind_each" "stored_behind_each" (defArgs s_stored_behind_each) (defBody s_stored_behind_each) (defScope s_stored_behind_each) .none kV8 dc8 pm8 an8 cd8 ct8), sl8⟩) (c8 : PySem.W.codeIn K cd8 "stored_behind_each" = true) (k8 : PySem.W.keepIn K (.ref f8) = true)
    (a9 : PySem.W.nsIn K mainGlobals "goes_beyond_most" = some (some (.ref f9))) (l9 : K.lookup f9 = some ⟨oc9, od9, .func (PySem.W.fnOf "goes_beyond_most" "goes_beyond_most" (defArgs s_goes_beyond_most) (defBody s_goes_beyond_most) (defScope s_goes_beyond_most) .none kV9 dc9 pm9 an9 cd9 ct9), sl9⟩) (c9 : PySem.W.codeIn K cd9 "goes_beyond_most" = true) (k9 : PySem.W.keepIn K (.ref f9) = true)
    (a10 : PySem.W.nsIn K mainGlobals "stored" = some (some (.ref f10))) (l10 : K.lookup f10 = some ⟨oc10, od10, .func (PySem.W.fnOf "stored" "stored" (defArgs s_stored) (defBody s_stored) (defScope s_stored) .none kV10 dc10 pm10 an10 cd10 ct10), sl10⟩) (c10 : PySem.W.codeIn K cd10 "stored" = true) (k10 : PySem.W.keepIn K (.ref f10) = true)
    (a11 : PySem.W.nsIn K mainGlobals "barred" = some (some (.ref f11))) (l11 : K.lookup f11 = some ⟨oc11, od11, .func (PySem.W.fnOf "barred" "barred" (defArgs s_barred) (defBody s_barred) (defScope s_barred) .none kV11 dc11 pm11 an11 cd11 ct11), sl11⟩) (c11 : PySem.W.codeIn K cd11 "barred" = true) (k11 : PySem.W.keepIn K (.ref f11) = true)
    (a12 : PySem.W.nsIn K mainGlobals "gained" = some (some (.ref f12))) (l12 : K.lookup f12 = some ⟨oc12, od12, .func (PySem.W.fnOf "gained" "gained" (defArgs s_gained) (defBody s_gained) (defScope s_gained) .none kV12 dc12 pm12 an12 cd12 ct12), sl12⟩) (c12 : PySem.W.codeIn K cd12 "gained" = true) (k12 : PySem.W.keepIn K (.ref f12) = true)
    (a13 : PySem.W.nsIn K mainGlobals "best" = some (some (.ref f13))) (l13 : K.lookup f13 = some ⟨oc13, od13, .func (PySem.W.fnOf "best" "best" (defArgs s_best) (defBody s_best) (defScope s_best) .none kV13 dc13 pm13 an13 cd13 ct13), sl13⟩) (c13 : PySem.W.codeIn K cd13 "best" = true) (k13 : PySem.W.keepIn K (.ref f13) = true)
    (a14 : PySem.W.nsIn K mainGlobals "most_gain" = some (some (.ref f14))) (l14 : K.lookup f14 = some ⟨oc14, od14, .func (PySem.W.fnOf "most_gain" "most_gain" (defArgs s_most_gain) (defBody s_most_gain) (defScope s_most_gain) .none kV14 dc14 pm14 an14 cd14 ct14), sl14⟩) (c14 : PySem.W.codeIn K cd14 "most_gain" = true) (k14 : PySem.W.keepIn K (.ref f14) = true)
    (a15 : PySem.W.nsIn K mainGlobals "changed" = some (some (.ref f15))) (l15 : K.lookup f15 = some ⟨oc15, od15, .func (PySem.W.fnOf "changed" "changed" (defArgs s_changed) (defBody s_changed) (defScope s_changed) .none kV15 dc15 pm15 an15 cd15 ct15), sl15⟩) (c15 : PySem.W.codeIn K cd15 "changed" = true) (k15 : PySem.W.keepIn K (.ref f15) = true)
    (a16 : PySem.W.nsIn K mainGlobals "check_count" = some (some (.ref f16))) (l16 : K.lookup f16 = some ⟨oc16, od16, .func (PySem.W.fnOf "check_count" "check_count" (defArgs s_check_count) (defBody s_check_count) (defScope s_check_count) .none kV16 dc16 pm16 an16 cd16 ct16), sl16⟩) (c16 : PySem.W.codeIn K cd16 "check_count" = true) (k16 : PySem.W.keepIn K (.ref f16) = true)
    (a17 : PySem.W.nsIn K mainGlobals "check_day" = some (some (.ref f17))) (l17 : K.lookup f17 = some ⟨oc17, od17, .func (PySem.W.fnOf "check_day" "check_day" (defArgs s_check_day) (defBody s_check_day) (defScope s_check_day) .none kV17 dc17 pm17 an17 cd17 ct17), sl17⟩) (c17 : PySem.W.codeIn K cd17 "check_day" = true) (k17 : PySem.W.keepIn K (.ref f17) = true)
    (a18 : PySem.W.nsIn K mainGlobals "_law_day" = some (some (.ref f18))) (l18 : K.lookup f18 = some ⟨oc18, od18, .func (PySem.W.fnOf "_law_day" "_law_day" (defArgs s__law_day) (defBody s__law_day) (defScope s__law_day) .none kV18 dc18 pm18 an18 cd18 ct18), sl18⟩) (c18 : PySem.W.codeIn K cd18 "_law_day" = true) (k18 : PySem.W.keepIn K (.ref f18) = true)
    (a19 : PySem.W.nsIn K mainGlobals "_law_days_asked" = some (some (.ref f19))) (l19 : K.lookup f19 = some ⟨oc19, od19, .func (PySem.W.fnOf "_law_days_asked" "_law_days_asked" (defArgs s__law_days_asked) (defBody s__law_days_asked) (defScope s__law_days_asked) .none kV19 dc19 pm19 an19 cd19 ct19), sl19⟩) (c19 : PySem.W.codeIn K cd19 "_law_days_asked" = true) (k19 : PySem.W.keepIn K (.ref f19) = true)
    (a20 : PySem.W.nsIn K mainGlobals "_law_others_asked" = some (some (.ref f20))) (l20 : K.lookup f20 = some ⟨oc20, od20, .func (PySem.W.fnOf "_law_others_asked" "_law_others_asked" (defArgs s__law_others_asked) (defBody s__law_others_asked) (defScope s__law_others_asked) .none kV20 dc20 pm20 an20 cd20 ct20), sl20⟩) (c20 : PySem.W.codeIn K cd20 "_law_others_asked" = true) (k20 : PySem.W.keepIn K (.ref f20) = true)
    (a21 : PySem.W.nsIn K mainGlobals "_law_told" = some (some (.ref f21))) (l21 : K.lookup f21 = some ⟨oc21, od21, .func (PySem.W.fnOf "_law_told" "_law_told" (defArgs s__law_told) (defBody s__law_told) (defScope s__law_told) .none kV21 dc21 pm21 an21 cd21 ct21), sl21⟩) (c21 : PySem.W.codeIn K cd21 "_law_told" = true) (k21 : PySem.W.keepIn K (.ref f21) = true)
    (a22 : PySem.W.nsIn K mainGlobals "law" = some (some (.ref f22))) (l22 : K.lookup f22 = some ⟨oc22, od22, .func (PySem.W.fnOf "law" "law" (defArgs s_law) (defBody s_law) (defScope s_law) .none kV22 dc22 pm22 an22 cd22 ct22), sl22⟩) (c22 : PySem.W.codeIn K cd22 "law" = true) (k22 : PySem.W.keepIn K (.ref f22) = true)
    (u1 : PySem.W.nsIn K mainGlobals "BUY_PRICE" = some (some (.int 0 tk1)))
    (u2 : PySem.W.nsIn K mainGlobals "BUY_MOST" = some (some (.int 1 tk2)))
    (u3 : PySem.W.nsIn K mainGlobals "SELL_PRICE" = some (some (.int 2 tk3)))
    (u4 : PySem.W.nsIn K mainGlobals "SELL_MOST" = some (some (.int 3 tk4)))
    (u5 : PySem.W.nsIn K mainGlobals "BOUGHT" = some (some (.int 0 tk5)))
    (u6 : PySem.W.nsIn K mainGlobals "SOLD" = some (some (.int 1 tk6)))
    (z1 : PySem.W.nsIn K mainGlobals "len" = some none)
    (z2 : PySem.W.nsIn K mainGlobals "isinstance" = some none)
    (z3 : PySem.W.nsIn K mainGlobals "int" = some none)
    (z4 : PySem.W.nsIn K mainGlobals "bool" = some none)
    (z5 : PySem.W.nsIn K mainGlobals "tuple" = some none)
    (z6 : PySem.W.nsIn K mainGlobals "list" = some none)
    (z7 : PySem.W.nsIn K mainGlobals "all" = some none)
    (z8 : PySem.W.nsIn K mainGlobals "sum" = some none)
    (z9 : PySem.W.nsIn K mainGlobals "zip" = some none)
    (z10 : PySem.W.nsIn K mainGlobals "enumerate" = some none)
    (z11 : PySem.W.nsIn K mainGlobals "range" = some none)
    (z12 : PySem.W.nsIn K mainGlobals "min" = some none)
    (z13 : PySem.W.nsIn K mainGlobals "max" = some none)
    (z14 : PySem.W.nsIn K mainGlobals "ValueError" = some none)
    (xG : PySem.W.nsIn K mainGlobals "GrainError" = some (some (.ref cG)))
    (yG : PySem.W.excIn K cG VE "ValueError.__new__" = true)
    (xD : PySem.W.nsIn K mainGlobals "BadDays" = some (some (.ref cD)))
    (yD : PySem.W.excIn K cD VE "ValueError.__new__" = true)
    (xR : PySem.W.nsIn K mainGlobals "BadRoom" = some (some (.ref cR)))
    (yR : PySem.W.excIn K cR VE "ValueError.__new__" = true)
    (xL : PySem.W.nsIn K mainGlobals "BadDealing" = some (some (.ref cL)))
    (yL : PySem.W.excIn K cL VE "ValueError.__new__" = true)
    (xB : PySem.W.nsIn K mainGlobals "BadDay" = some (some (.ref cB)))
    (yB : PySem.W.excIn K cB VE "ValueError.__new__" = true)
    (gaD : PySem.W.findIn K (.ref cD) "__getattribute__" = some (some (.builtin "BaseException.__getattribute__")))
    (ghD : PySem.W.findIn K (.ref cD) "__getattr__" = some none)
    (caD : PySem.W.findIn K (.ref cD) "__class__" = some (some (.builtin "object.__class__")))
    (beD : PySem.W.mroIn K cD (.type "BaseException") = some true)
    (obD : PySem.W.mroIn K cD (.type "object") = some true)
    (clD : PySem.W.isClsIn K cD = true)
    (mgD : PySem.W.mroIn K cD (.ref cG) = some true)
    (gaR : PySem.W.findIn K (.ref cR) "__getattribute__" = some (some (.builtin "BaseException.__getattribute__")))
    (ghR : PySem.W.findIn K (.ref cR) "__getattr__" = some none)
    (caR : PySem.W.findIn K (.ref cR) "__class__" = some (some (.builtin "object.__class__")))
    (beR : PySem.W.mroIn K cR (.type "BaseException") = some true)
    (obR : PySem.W.mroIn K cR (.type "object") = some true)
    (clR : PySem.W.isClsIn K cR = true)
    (mgR : PySem.W.mroIn K cR (.ref cG) = some true)
    (gaL : PySem.W.findIn K (.ref cL) "__getattribute__" = some (some (.builtin "BaseException.__getattribute__")))
    (ghL : PySem.W.findIn K (.ref cL) "__getattr__" = some none)
    (caL : PySem.W.findIn K (.ref cL) "__class__" = some (some (.builtin "object.__class__")))
    (beL : PySem.W.mroIn K cL (.type "BaseException") = some true)
    (obL : PySem.W.mroIn K cL (.type "object") = some true)
    (clL : PySem.W.isClsIn K cL = true)
    (mgL : PySem.W.mroIn K cL (.ref cG) = some true)
    (gaB : PySem.W.findIn K (.ref cB) "__getattribute__" = some (some (.builtin "BaseException.__getattribute__")))
    (ghB : PySem.W.findIn K (.ref cB) "__getattr__" = some none)
    (caB : PySem.W.findIn K (.ref cB) "__class__" = some (some (.builtin "object.__class__")))
    (beB : PySem.W.mroIn K cB (.type "BaseException") = some true)
    (obB : PySem.W.mroIn K cB (.type "object") = some true)
    (clB : PySem.W.isClsIn K cB = true)
    (mgB : PySem.W.mroIn K cB (.ref cG) = some true)
    (kDD : PySem.W.kitOne K (.ref cD) (.ref cD) = some true)
    (kDR : PySem.W.kitOne K (.ref cD) (.ref cR) = some false)
    (kDL : PySem.W.kitOne K (.ref cD) (.ref cL) = some false)
    (kDB : PySem.W.kitOne K (.ref cD) (.ref cB) = some false)
    (kRD : PySem.W.kitOne K (.ref cR) (.ref cD) = some false)
    (kRR : PySem.W.kitOne K (.ref cR) (.ref cR) = some true)
    (kRL : PySem.W.kitOne K (.ref cR) (.ref cL) = some false)
    (kRB : PySem.W.kitOne K (.ref cR) (.ref cB) = some false)
    (kLD : PySem.W.kitOne K (.ref cL) (.ref cD) = some false)
    (kLR : PySem.W.kitOne K (.ref cL) (.ref cR) = some false)
    (kLL : PySem.W.kitOne K (.ref cL) (.ref cL) = some true)
    (kLB : PySem.W.kitOne K (.ref cL) (.ref cB) = some false)
    (kBD : PySem.W.kitOne K (.ref cB) (.ref cD) = some false)
    (kBR : PySem.W.kitOne K (.ref cB) (.ref cR) = some false)
    (kBL : PySem.W.kitOne K (.ref cB) (.ref cL) = some false)
    (kBB : PySem.W.kitOne K (.ref cB) (.ref cB) = some true)
    (kVD_ : PySem.W.kitOne K (.ref cD) (.type "ValueError") = some true)
    (kVR_ : PySem.W.kitOne K (.ref cR) (.type "ValueError") = some true)
    (kVL_ : PySem.W.kitOne K (.ref cL) (.type "ValueError") = some true)
    (kVB_ : PySem.W.kitOne K (.ref cB) (.type "ValueError") = some true)
    : ∃ fd : FuncData, (∀ (s : Shared) (v : Value), BindsTo s fd ⟨[v], []⟩ [("_law_script", v)]) ∧ ∀ base : Heap, K.In base → base.Ns mainGlobals mg → FnOk l.prog w K mg base CX0 9 fa fd ["_law_script"] (sp_law K) := by
  have e := hfa.symm.trans (PySem.W.mg_of X G a22)
  cases e
  have T : Txt mg := ⟨PySem.W.mg_none_of X G z1, PySem.W.mg_none_of X G z2, PySem.W.mg_none_of X G z3, PySem.W.mg_none_of X G z4, PySem.W.mg_none_of X G z5, PySem.W.mg_none_of X G z6, PySem.W.mg_none_of X G z7, PySem.W.mg_none_of X G z8, PySem.W.mg_none_of X G z9, PySem.W.mg_none_of X G z10, PySem.W.mg_none_of X G z11, PySem.W.mg_none_of X G z12, PySem.W.mg_none_of X G z13, ⟨_, PySem.W.mg_of X G u1⟩, ⟨_, PySem.W.mg_of X G u2⟩, ⟨_, PySem.W.mg_of X G u3⟩, ⟨_, PySem.W.mg_of X G u4⟩, ⟨_, PySem.W.mg_of X G u5⟩, ⟨_, PySem.W.mg_of X G u6⟩⟩
  have n_ValueError : mg "ValueError" = none := PySem.W.mg_none_of X G z14
  have F_is_amount := fun_mk (st := s_is_amount) l1 c1 k1
  have D_is_amount : Def K mg "is_amount" ["value"] f1 _ := ⟨PySem.W.mg_of X G a1, k1, F_is_amount.binds (ps := ["value"]) (fun _ _ _ _ _ _ us hl => by refine bd1 hl ?_; intros; rfl)⟩
  have F_is_tuple_of_amounts := fun_mk (st := s_is_tuple_of_amounts) l2 c2 k2
  have D_is_tuple_of_amounts : Def K mg "is_tuple_of_amounts" ["value", "count"] f2 _ := ⟨PySem.W.mg_of X G a2, k2, F_is_tuple_of_amounts.binds (ps := ["value", "count"]) (fun _ _ _ _ _ _ us hl => by refine bd2 hl ?_; intros; rfl)⟩
  have F_is_day := fun_mk (st := s_is_day) l3 c3 k3
  have D_is_day : Def K mg "is_day" ["value"] f3 _ := ⟨PySem.W.mg_of X G a3, k3, F_is_day.binds (ps := ["value"]) (fun _ _ _ _ _ _ us hl => by refine bd1 hl ?_; intros; rfl)⟩
  have F_is_deed := fun_mk (st := s_is_deed) l4 c4 k4
  have D_is_deed : Def K mg "is_deed" ["value"] f4 _ := ⟨PySem.W.mg_of X G a4, k4, F_is_deed.binds (ps := ["value"]) (fun _ _ _ _ _ _ us hl => by refine bd1 hl ?_; intros; rfl)⟩
  have F_check_days := fun_mk (st := s_check_days) l5 c5 k5
  have D_check_days : Def K mg "check_days" ["days"] f5 _ := ⟨PySem.W.mg_of X G a5, k5, F_check_days.binds (ps := ["days"]) (fun _ _ _ _ _ _ us hl => by refine bd1 hl ?_; intros; rfl)⟩
  have F_check_room := fun_mk (st := s_check_room) l6 c6 k6
  have D_check_room : Def K mg "check_room" ["room"] f6 _ := ⟨PySem.W.mg_of X G a6, k6, F_check_room.binds (ps := ["room"]) (fun _ _ _ _ _ _ us hl => by refine bd1 hl ?_; intros; rfl)⟩
  have F_check_dealing := fun_mk (st := s_check_dealing) l7 c7 k7
  have D_check_dealing : Def K mg "check_dealing" ["days", "dealing"] f7 _ := ⟨PySem.W.mg_of X G a7, k7, F_check_dealing.binds (ps := ["days", "dealing"]) (fun _ _ _ _ _ _ us hl => by refine bd2 hl ?_; intros; rfl)⟩
  have F_stored_behind_each := fun_mk (st := s_stored_behind_each) l8 c8 k8
  have D_stored_behind_each : Def K mg "stored_behind_each" ["dealing"] f8 _ := ⟨PySem.W.mg_of X G a8, k8, F_stored_behind_each.binds (ps := ["dealing"]) (fun _ _ _ _ _ _ us hl => by refine bd1 hl ?_; intros; rfl)⟩
  have F_goes_beyond_most := fun_mk (st := s_goes_beyond_most) l9 c9 k9
  have D_goes_beyond_most : Def K mg "goes_beyond_most" ["day", "deed"] f9 _ := ⟨PySem.W.mg_of X G a9, k9, F_goes_beyond_most.binds (ps := ["day", "deed"]) (fun _ _ _ _ _ _ us hl => by refine bd2 hl ?_; intros; rfl)⟩
  have F_stored := fun_mk (st := s_stored) l10 c10 k10
  have D_stored : Def K mg "stored" ["days", "dealing"] f10 _ := ⟨PySem.W.mg_of X G a10, k10, F_stored.binds (ps := ["days", "dealing"]) (fun _ _ _ _ _ _ us hl => by refine bd2 hl ?_; intros; rfl)⟩
  have F_barred := fun_mk (st := s_barred) l11 c11 k11
  have D_barred : Def K mg "barred" ["days", "room", "dealing"] f11 _ := ⟨PySem.W.mg_of X G a11, k11, F_barred.binds (ps := ["days", "room", "dealing"]) (fun _ _ _ _ _ _ us hl => by refine bd3 hl ?_; intros; rfl)⟩
  have F_gained := fun_mk (st := s_gained) l12 c12 k12
  have D_gained : Def K mg "gained" ["days", "dealing"] f12 _ := ⟨PySem.W.mg_of X G a12, k12, F_gained.binds (ps := ["days", "dealing"]) (fun _ _ _ _ _ _ us hl => by refine bd2 hl ?_; intros; rfl)⟩
  have F_best := fun_mk (st := s_best) l13 c13 k13
  have D_best : Def K mg "best" ["days", "room"] f13 _ := ⟨PySem.W.mg_of X G a13, k13, F_best.binds (ps := ["days", "room"]) (fun _ _ _ _ _ _ us hl => by refine bd2 hl ?_; intros; rfl)⟩
  have F_most_gain := fun_mk (st := s_most_gain) l14 c14 k14
  have D_most_gain : Def K mg "most_gain" ["days", "room"] f14 _ := ⟨PySem.W.mg_of X G a14, k14, F_most_gain.binds (ps := ["days", "room"]) (fun _ _ _ _ _ _ us hl => by refine bd2 hl ?_; intros; rfl)⟩
  have F_changed := fun_mk (st := s_changed) l15 c15 k15
  have D_changed : Def K mg "changed" ["days", "room", "at", "day"] f15 _ := ⟨PySem.W.mg_of X G a15, k15, F_changed.binds (ps := ["days", "room", "at", "day"]) (fun _ _ _ _ _ _ us hl => by refine bd4 hl ?_; intros; rfl)⟩
  have F_check_count := fun_mk (st := s_check_count) l16 c16 k16
  have D_check_count : Def K mg "check_count" ["days", "at"] f16 _ := ⟨PySem.W.mg_of X G a16, k16, F_check_count.binds (ps := ["days", "at"]) (fun _ _ _ _ _ _ us hl => by refine bd2 hl ?_; intros; rfl)⟩
  have F_check_day := fun_mk (st := s_check_day) l17 c17 k17
  have D_check_day : Def K mg "check_day" ["day"] f17 _ := ⟨PySem.W.mg_of X G a17, k17, F_check_day.binds (ps := ["day"]) (fun _ _ _ _ _ _ us hl => by refine bd1 hl ?_; intros; rfl)⟩
  have F__law_day := fun_mk (st := s__law_day) l18 c18 k18
  have D__law_day : Def K mg "_law_day" ["_law_which", "_law_more"] f18 _ := ⟨PySem.W.mg_of X G a18, k18, F__law_day.binds (ps := ["_law_which", "_law_more"]) (fun _ _ _ _ _ _ us hl => by refine bd2 hl ?_; intros; rfl)⟩
  have F__law_days_asked := fun_mk (st := s__law_days_asked) l19 c19 k19
  have D__law_days_asked : Def K mg "_law_days_asked" ["_law_which", "_law_more"] f19 _ := ⟨PySem.W.mg_of X G a19, k19, F__law_days_asked.binds (ps := ["_law_which", "_law_more"]) (fun _ _ _ _ _ _ us hl => by refine bd2 hl ?_; intros; rfl)⟩
  have F__law_others_asked := fun_mk (st := s__law_others_asked) l20 c20 k20
  have D__law_others_asked : Def K mg "_law_others_asked" ["_law_kind", "_law_which", "_law_more"] f20 _ := ⟨PySem.W.mg_of X G a20, k20, F__law_others_asked.binds (ps := ["_law_kind", "_law_which", "_law_more"]) (fun _ _ _ _ _ _ us hl => by refine bd3 hl ?_; intros; rfl)⟩
  have F__law_told := fun_mk (st := s__law_told) l21 c21 k21
  have D__law_told : Def K mg "_law_told" ["_law_kind", "_law_which", "_law_more"] f21 _ := ⟨PySem.W.mg_of X G a21, k21, F__law_told.binds (ps := ["_law_kind", "_law_which", "_law_more"]) (fun _ _ _ _ _ _ us hl => by refine bd3 hl ?_; intros; rfl)⟩
  have F_law := fun_mk (st := s_law) l22 c22 k22
  refine ⟨PySem.W.fnOf "law" "law" (defArgs s_law) (defBody s_law) (defScope s_law) .none kV22 dc22 pm22 an22 cd22 ct22, fun s v => .of_eq rfl, fun base _ _ => ?_⟩
  have X_GrainError := (⟨PySem.W.mg_of X G xG, yG⟩ : ExcC K mg "GrainError" cG)
  have X_BadDays := (⟨PySem.W.mg_of X G xD, yD⟩ : ExcC K mg "BadDays" cD)
  have X_BadRoom := (⟨PySem.W.mg_of X G xR, yR⟩ : ExcC K mg "BadRoom" cR)
  have X_BadDealing := (⟨PySem.W.mg_of X G xL, yL⟩ : ExcC K mg "BadDealing" cL)
  have X_BadDay := (⟨PySem.W.mg_of X G xB, yB⟩ : ExcC K mg "BadDay" cB)
  have kit := (⟨⟨gaD, ghD, caD, beD, obD, clD⟩, ⟨gaR, ghR, caR, beR, obR, clR⟩, ⟨gaL, ghL, caL, beL, obL, clL⟩, ⟨gaB, ghB, caB, beB, obB, clB⟩, mgD, mgR, mgL, mgB, kDD, kDR, kDL, kDB, kRD, kRR, kRL, kRB, kLD, kLR, kLL, kLB, kBD, kBR, kBL, kBB, kVD_, kVR_, kVL_, kVB_⟩ : Kit K cG cD cR cL cB)
  have G_is_amount := ok_is_amount (P := l.prog) (w := w) (base := base) F_is_amount T
  have G_is_tuple_of_amounts := ok_is_tuple_of_amounts F_is_tuple_of_amounts T D_is_amount G_is_amount
  have G_is_day := ok_is_day F_is_day D_is_tuple_of_amounts G_is_tuple_of_amounts
  have G_is_deed := ok_is_deed F_is_deed D_is_tuple_of_amounts G_is_tuple_of_amounts
  have G_check_days := ok_check_days F_check_days T D_is_day G_is_day
  have G_check_room := ok_check_room F_check_room D_is_amount G_is_amount
  have G_check_dealing := ok_check_dealing F_check_dealing T D_is_deed G_is_deed
  have G_stored_behind_each := ok_stored_behind_each (P := l.prog) (w := w) (base := base) F_stored_behind_each T
  have G_goes_beyond_most := ok_goes_beyond_most (P := l.prog) (w := w) (base := base) F_goes_beyond_most T
  have G_stored := ok_stored F_stored D_check_days G_check_days D_check_dealing G_check_dealing D_stored_behind_each G_stored_behind_each
  have G_barred := ok_barred F_barred T D_check_days G_check_days D_check_dealing G_check_dealing D_stored_behind_each G_stored_behind_each D_check_room G_check_room D_goes_beyond_most G_goes_beyond_most
  have A1 := okx_is_amount (P := l.prog) (w := w) (base := base) F_is_amount T
  have A2 := okx_is_tuple_of_amounts F_is_tuple_of_amounts T D_is_amount A1
  have A3 := okx_is_day F_is_day D_is_tuple_of_amounts A2
  have A4 := okx_is_deed F_is_deed D_is_tuple_of_amounts A2
  have A5 := okx_check_days F_check_days T X_BadDays D_is_day A3
  have A6 := okx_check_room F_check_room X_BadRoom D_is_amount A1
  have A7 := okx_check_dealing F_check_dealing T X_BadDealing D_is_deed A4
  have G_check_count := okx_check_count F_check_count T X_BadDay D_is_amount A1
  have G_check_day := okx_check_day F_check_day X_BadDays D_is_day A3
  have B1 := okb_stored F_stored D_check_days A5 D_check_dealing A7
  have B2 := okb_gained F_gained D_check_days A5 D_check_dealing A7
  have B3 := okb_barred F_barred D_check_days A5 D_check_room A6 D_check_dealing A7
  have B4 := okb_best F_best D_check_days A5 D_check_room A6
  have B5 := okb_most_gain F_most_gain D_gained B2 D_best B4
  have B6 := okb_changed F_changed D_check_days A5 D_check_room A6 D_check_count G_check_count D_check_day G_check_day
  have G__law_day := ok__law_day (P := l.prog) (w := w) (mg := mg) (base := base) F__law_day
  have G__law_days_asked := ok__law_days_asked F__law_days_asked T D__law_day G__law_day D_stored (B1.mono (show 5 ≤ 6 by decide)) D_gained (B2.mono (show 5 ≤ 6 by decide)) D_barred (B3.mono (show 5 ≤ 6 by decide)) D_best (B4.mono (show 5 ≤ 6 by decide)) D_most_gain B5 D_changed (B6.mono (show 5 ≤ 6 by decide))
  have G__law_others_asked := ok__law_others_asked F__law_others_asked D__law_day G__law_day D_stored (B1.mono (show 5 ≤ 6 by decide)) D_gained (B2.mono (show 5 ≤ 6 by decide)) D_barred (B3.mono (show 5 ≤ 6 by decide)) D_best (B4.mono (show 5 ≤ 6 by decide)) D_most_gain B5 D_changed (B6.mono (show 5 ≤ 6 by decide))
  have G__law_told := ok__law_told F__law_told T (PySem.W.mg_none_of X G z14) X_GrainError X_BadDays X_BadRoom X_BadDealing X_BadDay kit D__law_days_asked G__law_days_asked D__law_others_asked G__law_others_asked
  exact ok_law F_law D__law_told G__law_told D_barred G_barred D_stored G_stored
theorem walk {l : PySem.W.OpenLaw} {q : Program} {loose : List Str} {XP : (Str → Option Value) → Heap → Prop} {YP : World → Heap → Prop} {d : DefRec} {K : Params → PySem.W.Frag} (hn : l.most = some 63) (hdf : d.params.defaults = [])
    (hY : ∀ (w : World) (h : Heap), YP w h → (K w.params).In h)
    (F : ∀ (w : World) (mg : Str → Option Value) (fa : Addr) (h : Heap), (K w.params).In h → h.Ns mainGlobals mg → mg d.name = some (.ref fa) →
      ∃ fd : FuncData, (∀ (s : Shared) (u : Value), BindsTo s fd ⟨[u], []⟩ [("_law_script", u)]) ∧ ∀ base : Heap, (K w.params).In base → base.Ns mainGlobals mg → FnOk l.prog w (K w.params) mg base CX0 9 fa fd ["_law_script"] (sp_law (K w.params))) :
    PySem.W.WalkO q loose XP YP l.row.toRowW d [] (fun f vs => PySem.call f vs) :=
  L2.walk_of (n := 63) (k := 9) (x := "_law_script") (CX := fun _ => CX0) (sp := fun w => sp_law (K w.params)) hn (by decide) hdf ⟨rfl, by decide, by decide⟩ hY F (fun _ _ a ns hl _ hS => ⟨a, ns, rfl, hS, hl, fun _ => rfl⟩) fun _ _ _ _ _ z => z
end Gs
open PySem PySem.W PyProof.Rows
set_option maxRecDepth 100000 in
set_option maxHeartbeats 0 in
theorem PySem.Challenge.cw_grainstore_k06_refused_holds : PySem.Challenge.rw_grainstore_k06_refused.Holds := by
  w_on; o_law; k_head; (case hw => w_witness2)
  k_fill
  refine Gs.walk (l := PySem.Challenge.rw_grainstore_k06_refused) rfl rfl (fun w h Y => PySem.W.kIn_of Y) ?F
  case F =>
    intro w mg fa h KX G hmg
    refine' Gs.all_mk KX G hmg ?a1 ?l1 ?c1 ?k1 ?a2 ?l2 ?c2 ?k2 ?a3 ?l3 ?c3 ?k3 ?a4 ?l4 ?c4 ?k4 ?a5 ?l5 ?c5 ?k5 ?a6 ?l6 ?c6 ?k6 ?a7 ?l7 ?c7 ?k7 ?a8 ?l8 ?c8 ?k8 ?a9 ?l9 ?c9 ?k9 ?a10 ?l10 ?c10 ?k10 ?a11 ?l11 ?c11 ?k11 ?a12 ?l12 ?c12 ?k12 ?a13 ?l13 ?c13 ?k13 ?a14 ?l14 ?c14 ?k14 ?a15 ?l15 ?c15 ?k15 ?a16 ?l16 ?c16 ?k16 ?a17 ?l17 ?c17 ?k17 ?a18 ?l18 ?c18 ?k18 ?a19 ?l19 ?c19 ?k19 ?a20 ?l20 ?c20 ?k20 ?a21 ?l21 ?c21 ?k21 ?a22 ?l22 ?c22 ?k22 ?u1 ?u2 ?u3 ?u4 ?u5 ?u6 ?z1 ?z2 ?z3 ?z4 ?z5 ?z6 ?z7 ?z8 ?z9 ?z10 ?z11 ?z12 ?z13 ?z14 ?xG ?yG ?xD ?yD ?xR ?yR ?xL ?yL ?xB ?yB ?gaD ?ghD ?caD ?beD ?obD ?clD ?mgD ?gaR ?ghR ?caR ?beR ?obR ?clR ?mgR ?gaL ?ghL ?caL ?beL ?obL ?clL ?mgL ?gaB ?ghB ?caB ?beB ?obB ?clB ?mgB ?kDD ?kDR ?kDL ?kDB ?kRD ?kRR ?kRL ?kRB ?kLD ?kLR ?kLL ?kLB ?kBD ?kBR ?kBL ?kBB ?kVD_ ?kVR_ ?kVL_ ?kVB_
    (case a1 => k_is)
    (case l1 => k_is)
    (case c1 => k_is)
    (case k1 => k_is)
    (case a2 => k_is)
    (case l2 => k_is)
    (case c2 => k_is)
    (case k2 => k_is)
    (case a3 => k_is)
    (case l3 => k_is)
    (case c3 => k_is)
    (case k3 => k_is)
    (case a4 => k_is)
    (case l4 => k_is)
    (case c4 => k_is)
    (case k4 => k_is)
    (case a5 => k_is)
    (case l5 => k_is)
    (case c5 => k_is)
    (case k5 => k_is)
    (case a6 => k_is)
    (case l6 => k_is)
    (case c6 => k_is)
    (case k6 => k_is)
    (case a7 => k_is)
    (case l7 => k_is)
    (case c7 => k_is)
    (case k7 => k_is)
    (case a8 => k_is)
    (case l8 => k_is)
    (case c8 => k_is)
    (case k8 => k_is)
    (case a9 => k_is)
    (case l9 => k_is)
    (case c9 => k_is)
    (case k9 => k_is)
    (case a10 => k_is)
    (case l10 => k_is)
    (case c10 => k_is)
    (case k10 => k_is)
    (case a11 => k_is)
    (case l11 => k_is)
    (case c11 => k_is)
    (case k11 => k_is)
    (case a12 => k_is)
    (case l12 => k_is)
    (case c12 => k_is)
    (case k12 => k_is)
    (case a13 => k_is)
    (case l13 => k_is)
    (case c13 => k_is)
    (case k13 => k_is)
    (case a14 => k_is)
    (case l14 => k_is)
    (case c14 => k_is)
    (case k14 => k_is)
    (case a15 => k_is)
    (case l15 => k_is)
    (case c15 => k_is)
    (case k15 => k_is)
    (case a16 => k_is)
    (case l16 => k_is)
    (case c16 => k_is)
    (case k16 => k_is)
    (case a17 => k_is)
    (case l17 => k_is)
    (case c17 => k_is)
    (case k17 => k_is)
    (case a18 => k_is)
    (case l18 => k_is)
    (case c18 => k_is)
    (case k18 => k_is)
    (case a19 => k_is)
    (case l19 => k_is)
    (case c19 => k_is)
    (case k19 => k_is)
    (case a20 => k_is)
    (case l20 => k_is)
    (case c20 => k_is)
    (case k20 => k_is)
    (case a21 => k_is)
    (case l21 => k_is)
    (case c21 => k_is)
    (case k21 => k_is)
    (case a22 => k_is)
    (case l22 => k_is)
    (case c22 => k_is)
    (case k22 => k_is)
    (case u1 => k_is)
    (case u2 => k_is)
    (case u3 => k_is)
    (case u4 => k_is)
    (case u5 => k_is)
    (case u6 => k_is)
    (case z1 => k_is)
    (case z2 => k_is)
    (case z3 => k_is)
    (case z4 => k_is)
    (case z5 => k_is)
    (case z6 => k_is)
    (case z7 => k_is)
    (case z8 => k_is)
    (case z9 => k_is)
    (case z10 => k_is)
    (case z11 => k_is)
    (case z12 => k_is)
    (case z13 => k_is)
    (case z14 => k_is)
    (case xG => k_is)
    (case yG => k_exc)
    (case xD => k_is)
    (case yD => k_exc)
    (case xR => k_is)
    (case yR => k_exc)
    (case xL => k_is)
    (case yL => k_exc)
    (case xB => k_is)
    (case yB => k_exc)
    (case gaD => k_is)
    (case ghD => k_is)
    (case caD => k_is)
    (case beD => k_is)
    (case obD => k_is)
    (case clD => k_is)
    (case mgD => k_is)
    (case gaR => k_is)
    (case ghR => k_is)
    (case caR => k_is)
    (case beR => k_is)
    (case obR => k_is)
    (case clR => k_is)
    (case mgR => k_is)
    (case gaL => k_is)
    (case ghL => k_is)
    (case caL => k_is)
    (case beL => k_is)
    (case obL => k_is)
    (case clL => k_is)
    (case mgL => k_is)
    (case gaB => k_is)
    (case ghB => k_is)
    (case caB => k_is)
    (case beB => k_is)
    (case obB => k_is)
    (case clB => k_is)
    (case mgB => k_is)
    (case kDD => kit_is)
    (case kDR => kit_is)
    (case kDL => kit_is)
    (case kDB => kit_is)
    (case kRD => kit_is)
    (case kRR => kit_is)
    (case kRL => kit_is)
    (case kRB => kit_is)
    (case kLD => kit_is)
    (case kLR => kit_is)
    (case kLL => kit_is)
    (case kLB => kit_is)
    (case kBD => kit_is)
    (case kBR => kit_is)
    (case kBL => kit_is)
    (case kBB => kit_is)
    (case kVD_ => kit_is)
    (case kVR_ => kit_is)
    (case kVL_ => kit_is)
    (case kVB_ => kit_is)
